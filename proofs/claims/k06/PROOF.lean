import PyProof.Rows.All
import Wide.All
import OpenK.AllK
import Wide.FinOn
import Lean
import PyProof.EqAt
import PyProof.EqKinds
import PyProof.TupleCall
import PyProof.ReprRoads
import PyProof.P3Eq
import PyProof.NeData
import PyProof.ReprLen
import PyProof.Rows.RegStrFacts
import OpenK.KOwn
import PyProof.StationsW
import PyProof.Rows.Catch
import PyProof.Rows.Own
import PyProof.RulesAs
import PyProof.ExcBaseAll.ValueError
import PyProof.NsDelKeeps
import PyProof.ExcArgsOwn
import PyProof.ExcAttrAll.ValueError
import PyProof.CompFree
import PyProof.CompMap
import PyProof.ConsumeWalk
import PyProof.SumWalk
import PyProof.Rows.TupIter
import PyProof.Rows.SumGenD
import PyProof.FString
import PyProof.Rows.FStr
import PyProof.Rows.RuleIs
import PyProof.FactsAll.tuple_iterator_1
import PyProof.FactsAll.tuple_2
import PyProof.FactsAll.list_3
import PyProof.Cells
import PyProof.ZipIter
import PyProof.EnumMake
import PyProof.EnumFor
import PyProof.ListRange
import PyProof.TupleOfSeq
import PyProof.Rows.SetFrom
import PyProof.Rows.SortShell
import PyProof.CollectWalk
import PyProof.FactsAll.set_1
import PyProof.Rows.SortWalk
import PyProof.FactsAll.set_2
import KE.KDictSum
import KE.KSortTup
import PyProof.TupleKey
import PyProof.IsRules
import KE.KTupSum
import PyProof.WalkInts
import PyProof.SeqI3
import PyProof.Conv_int_bool
import PySem.Challenge.RW_fadewalk_k06_steps_refused
set_option Elab.async false
set_option maxRecDepth 100000
set_option maxHeartbeats 8000000
namespace T
open PySem PySem.W PyProof.Rows
/-- the top's run over a tree -/
noncomputable def runT (p:Program) (w:World) (m:Nat) (a:Option Value):Nat->SharedT->Thread->Option SharedT
 | 0,_,_=>none
 | n + 1,s,t=>match through t with
   | true=>some s
   | false=>match stepOk m a t with
     | false=>none
     | true=>match stepT (denote treeTable) p w s t with
       | some r=>runT p w m a n r.1 r.2
       | none=>none
theorem run_of {p:Program}{w:World}{m:Nat}{a:Option Value}:∀ {n:Nat}{s s':SharedT}{t:Thread},runT p w m a n s t=some s'->topRun treeTable p w m a n s.abs t=some s'.abs
 | 0,_,_,_,h=>by cases h
 | n + 1,s,s',t,h=>by
   unfold runT at h
   unfold topRun
   cases ht:through t with
   | true=>rw [ht] at h;cases h;rfl
   | false=>
     rw [ht] at h
     cases hk:stepOk m a t with
     | false=>rw [hk] at h;cases h
     | true=>
       rw [hk] at h
       cases hs:stepT (denote treeTable) p w s t with
       | none=>rw [hs] at h;cases h
       | some r=>obtain ⟨s2,t2⟩:=r;rw [hs] at h;rw [stepT_spec hs];exact run_of h
noncomputable def grow:List Obj->Nat->BT->BT
 | [],_,t=>t
 | o::l,n,t=>grow l (n + 1) (t.ins n o)
noncomputable def bootT (B:Heap) (os:OsState):SharedT:=⟨grow B.objs.toList 0 .nil,B.objs.size,B.life,#[],boot_drawn,boot_toks,os⟩
noncomputable def bootA (w:World) (os:OsState):Shared:=⟨boot_heap w.params,#[],boot_drawn,boot_toks,os⟩
theorem boot_abs (w:World) (os:OsState):(bootT (boot_heap w.params) os).abs=bootA w os:=by kernel_rfl
theorem boot_ns (w:World):((boot_heap w.params).isNs mainGlobals && (#[]:Array GenState).size == 0)=true:=by kernel_rfl
noncomputable def chk {α:Type} (p q:Program) (loose:List Str) (Xt:Shared->Bool) (Yf:Shared->α) (N:Nat) (B:Heap) (w:World) (os:OsState):=
 (runT p w B.objs.size (B.nsMap mainGlobals "__annotations__") N (bootT B os) (topStub p)).map fun s=>
   (staticsOk (importedModules p.main.body) B s.abs.heap && namesBound p s.abs.heap && gensDone s.abs && laidKept B s.abs.heap,openSeen q loose (importedModules p.main.body) Xt true s.abs,Yf s.abs)
theorem left {α:Type}{p q:Program}{loose:List Str}{Xt:Shared->Bool}{Yf:Shared->α}{Ya:World->α}{N:Nat} (e:opening p=plainProg p.main.scope.names) (hN:Nat.ble 600 N=true) (f:∀ s,fenceModules? p s=some s)
  (h:∀ (w:World) (os:OsState),chk p q loose Xt Yf N (boot_heap w.params) w os=some (true,openGood q loose,Ya w)):LeftO p q loose Xt Yf Ya N:=fun w=>by
 obtain ⟨⟨hh,gs,d,k,os⟩,e1,e2⟩:=Option.map_eq_some_iff.mp (boot_open (N:=N) e hN f w)
 obtain ⟨rfl,rfl,rfl,rfl⟩:hh=boot_heap w.params∧gs=#[]∧d=boot_drawn∧k=boot_toks:=by simpa using e2
 obtain ⟨s,r1,r2⟩:=Option.map_eq_some_iff.mp (h w os)
 have r:=run_of r1
 rw [boot_abs] at r
 obtain ⟨l1,l2,l3⟩:_∧_∧_:=by simpa only [Prod.mk.injEq] using r2
 unfold openEnds topFrom
 rw [e1]
 show (match (boot_heap w.params).isNs mainGlobals && (#[]:Array GenState).size == 0 with | true=>_ | false=>_:Option Shared).map _=_
 rw [boot_ns]
 show ((topRun treeTable p w (boot_heap w.params).objs.size _ N (bootA w os) (topStub p)).bind _).map _=_
 rw [r]
 show (match staticsOk (importedModules p.main.body) (boot_heap w.params) s.abs.heap && namesBound p s.abs.heap && gensDone s.abs && laidKept (boot_heap w.params) s.abs.heap with | true=>_ | false=>_:Option Shared).map _=_
 rw [l1]
 show some (openSeen q loose (importedModules p.main.body) Xt true s.abs,Yf s.abs)=some _
 rw [l2,l3]
noncomputable def tp (i:Nat):Stmt:=PySem.Challenge.pw_fadewalk_k06_steps_refused.main.body.getD i (.Pass ⟨0,0,0,0⟩)
noncomputable def view:Program:={ PySem.Challenge.pw_fadewalk_k06_steps_refused with main:={ PySem.Challenge.pw_fadewalk_k06_steps_refused.main with body:=[tp 1,tp 2,tp 3,tp 4,tp 5,tp 6,tp 7,tp 9,tp 10,tp 11,tp 13,tp 14,tp 15,tp 16,tp 17,tp 18,tp 20,tp 21,tp 22,tp 23,tp 24,tp 25,tp 26,tp 28,tp 29,tp 30,tp 31,tp 32,tp 33,tp 34,tp 35,tp 36,tp 37,tp 38,tp 39] } }
noncomputable def loos:List Str:=["Walk"]
noncomputable def lvs:List (Str×WData):=[]
noncomputable def lhs (B:Heap) (as ts:List Addr) (w:World) (os:OsState):=chk PySem.Challenge.pw_fadewalk_k06_steps_refused view loos (fun s=>xlAt view lvs s && recOk (RowW.records (OpenRow.toRowW (OpenLaw.row PySem.Challenge.rw_fadewalk_k06_steps_refused))) s) (fun s=>(as.map s.heap.get?,ts.map s.heap.get?)) 5530 B w os
noncomputable def rhs (K:Params->Frag) (ts:List Addr) (w:World):=some (true,openGood view loos,((K w.params).map fun p=>some p.2,ts.map fun _=>some (tabObj #[])))
lay_quick T.lhs T.rhs
theorem hook {K:Params->Frag}{as:List Addr}{e:∀ P,as=(K P).map (·.1)}{ts:List Addr} (h:∀ (w:World) (os:OsState),PySem.W.Fast.tw12313586583820656202 (boot_heap w.params) as ts w os=PySem.W.Fast.tw7420988445182104193 K ts w) :
  LeftO PySem.Challenge.pw_fadewalk_k06_steps_refused view loos (fun s=>xlAt view lvs s && recOk (RowW.records (OpenRow.toRowW (OpenLaw.row PySem.Challenge.rw_fadewalk_k06_steps_refused))) s) (Hook.obs (kmHook K as e ts)) (Hook.val (kmHook K as e ts)) 5530:=
 left rfl (by decide) (fun _=>rfl) fun w os=>by
  show lhs (boot_heap w.params) as ts w os=rhs K ts w
  rw [PySem.W.Fast.te12313586583820656202,PySem.W.Fast.te7420988445182104193]
  exact h w os
local macro_rules
 | `(tactic| o_head $H)=>`(tactic| (
   refine PySem.W.holds_open (q:=T.view) (loose:=T.loos)
    (Xt:=fun s=>PySem.W.xlAt T.view T.lvs s && PySem.W.recOk (PySem.W.RowW.records (PySem.W.OpenRow.toRowW (PySem.W.OpenLaw.row PySem.Challenge.rw_fadewalk_k06_steps_refused))) s)
    (XP:=PySem.W.XL T.view T.lvs) (Yf:=PySem.W.Hook.obs $H) (Ya:=PySem.W.Hook.val $H)
    (YP:=PySem.W.Hook.says $H) (N:=5530) ?hl (PySem.W.Hook.of $H) (PySem.W.Hook.keeps $H)
    (fun s e=>PySem.W.xl_of s (Bool.and_eq_true_iff.mp e).1) PySem.W.XL.keeps rfl rfl rfl
    (fun s e=>PySem.W.recFacts_of (Bool.and_eq_true_iff.mp e).2) rfl
    (by first | assumption | decide +kernel) (by decide +kernel)
    ⟨rfl,rfl,rfl,rfl,rfl,by decide +kernel⟩ ?hw ?hc;(case hl=>exact T.hook (fun w os=>by kernel_rfl))))
open_top cut for PySem.Challenge.rw_fadewalk_k06_steps_refused
end T
set_option linter.all false
namespace L2
open PySem PySem.Spec PyProof.Rows
abbrev Key:=Sum Int Str
def keyIs:Key->Value->Bool
 |.inl k,v=>Value.isInt k v
 |.inr x,v=>Value.isStrOf x v
def keyH(w:World):Key->Int
 |.inl k=>hashInt k
 |.inr x=>hashStr w x
theorem keyIs_shape:∀ {k:Key}{v:Value},keyIs k v=true->(∃ i t,k=Sum.inl i∧v=Value.int i t)∨(∃ x t,k=Sum.inr x∧v=Value.str x t)
 |.inl i,v,h=>by
   obtain⟨t,e⟩:=Value.isInt_shape (k:=i) (v:=v) h
   exact .inl ⟨i,t,rfl,e⟩
 |.inr x,v,h=>by
   obtain⟨t,e⟩:=Value.isStrOf_shape (x:=x) (v:=v) h
   exact .inr ⟨x,t,rfl,e⟩
theorem key_ll(a b:Int):decide ((Sum.inl a:Key)=Sum.inl b)=(a==b):=by
 by_cases e:a=b
 ·subst e;simp
 ·have h:¬ (Sum.inl a:Key)=Sum.inl b:=fun q=>e (Sum.inl.inj q)
  rw[decide_eq_false h]
  exact (beq_eq_false_iff_ne.mpr e).symm
theorem key_rr(a b:Str):decide ((Sum.inr a:Key)=Sum.inr b)=decide (a=b):=by
 by_cases e:a=b
 ·subst e;simp
 ·have h:¬ (Sum.inr a:Key)=Sum.inr b:=fun q=>e (Sum.inr.inj q)
  rw[decide_eq_false h,decide_eq_false e]
theorem key_lr(a:Int)(b:Str):decide ((Sum.inl a:Key)=Sum.inr b)=false:=decide_eq_false (fun q=>nomatch q)
theorem key_rl(a:Str)(b:Int):decide ((Sum.inr a:Key)=Sum.inl b)=false:=decide_eq_false (fun q=>nomatch q)
def mixKind (prog:Program) (w:World):PySem.KeyKind prog w Key where
 is:=keyIs
 hash:=keyH w
 inj:=fun v a b ha hb=>by
  rcases keyIs_shape ha with ⟨i,t,rfl,rfl⟩ | ⟨x,t,rfl,rfl⟩
  ·rcases keyIs_shape hb with ⟨j,u,rfl,e⟩ | ⟨y,u,rfl,e⟩
   ·injection e with e1 _;rw[e1]
   ·exact nomatch e
  ·rcases keyIs_shape hb with ⟨j,u,rfl,e⟩ | ⟨y,u,rfl,e⟩
   ·exact nomatch e
   ·injection e with e1 _;rw[e1]
 byValue:=fun k v h=>by
  rcases keyIs_shape h with ⟨i,t,rfl,rfl⟩ | ⟨x,t,rfl,rfl⟩<;>rfl
 pyHash:=fun hv h=>by
  rcases keyIs_shape hv with ⟨i,t,rfl,rfl⟩ | ⟨x,t,rfl,rfl⟩
  ·exact wpAny_pyHash_int h
  ·exact wpAny_pyHash_str h
 eqBool:=fun hu hv h=>by
  rcases keyIs_shape hu with ⟨i,t,rfl,rfl⟩ | ⟨x,t,rfl,rfl⟩
  ·rcases keyIs_shape hv with ⟨j,u,rfl,rfl⟩ | ⟨y,u,rfl,rfl⟩
   ·rw[key_ll] at h;exact wpAny_eqBool_int h
   ·rw[key_lr] at h;exact SeqAt.EqAt.int_str i t y u _ _ _ _ h
  ·rcases keyIs_shape hv with ⟨j,u,rfl,rfl⟩ | ⟨y,u,rfl,rfl⟩
   ·rw[key_rl] at h;exact SeqAt.EqAt.str_int x t j u _ _ _ _ h
   ·rw[key_rr] at h;exact wpAny_eqBool_str h
 «strs»:=fun k x t v h=>by
  rcases keyIs_shape h with ⟨i,u,rfl,e⟩ | ⟨y,u,rfl,e⟩
  ·exact nomatch e
  ·injection e with e1 _
   subst e1
   cases v<;>rfl
open PySem PySem.Spec PyProof.Rows
inductive V where
 |non | bl (b:Bool) | int (i:Int) | str (x:Str) | byt (b:Array UInt8) | flt (b:UInt64) | ref (a:Addr) | ty (n:String)
 deriving DecidableEq
def RelV:V->Value->Prop
 |.non,u=>u=Value.none
 |.bl b,u=>u=Value.bool b
 |.int i,u=>∃t,u=Value.int i t
 |.str x,u=>∃t,u=Value.str x t
 |.byt b,u=>∃t,u=Value.bytes b t
 |.flt b,u=>∃t,u=Value.float b t
 |.ref a,u=>u=Value.ref a
 |.ty n,u=>u=Value.type n
abbrev Vals:List V->List Value->Prop:=Paired RelV
theorem Vals.length{xs:List V}{us:List Value}(r:Vals xs us):xs.length=us.length:=Paired.length r
theorem Vals.get:∀ {xs:List V}{us:List Value}{i:Nat}{x:V},Vals xs us->xs[i]?=some x->∃ u,us[i]?=some u∧RelV x u
 |_,_,_,_,.nil,e=>by simp at e
 |_,_,0,_,.cons r _,e=>by simp at e;subst e;exact⟨_,rfl,r⟩
 |_,_,i+1,x,.cons _ t,e=>by
   obtain⟨u,h1,h2⟩:=Vals.get (i:=i) (x:=x) t (by simpa using e)
   exact⟨u,by simpa using h1,h2⟩
theorem Vals.set{x:V}{u:Value}(r:RelV x u):∀{xs:List V}{us:List Value} (i:Nat),Vals xs us->Vals (xs.set i x) (us.set i u)
 |_,_,_,.nil=>.nil
 |_,_,0,.cons _ t=>.cons r t
 |_,_,i+1,.cons q t=>.cons q (Vals.set r i t)
theorem Vals.append:∀{xs ys:List V}{us ws:List Value},Vals xs us->Vals ys ws->Vals (xs++ys) (us++ws)
 |_,_,_,_,.nil,s=>s
 |_,_,_,_,.cons r t,s=>.cons r (Vals.append t s)
theorem Vals.take:∀{xs:List V}{us:List Value} (n:Nat),Vals xs us->Vals (xs.take n) (us.take n)
 |_,_,0,_=>.nil
 |_,_,_+1,.nil=>.nil
 |_,_,n+1,.cons r t=>.cons r (Vals.take n t)
theorem Vals.drop:∀{xs:List V}{us:List Value} (n:Nat),Vals xs us->Vals (xs.drop n) (us.drop n)
 |_,_,0,r=>r
 |_,_,_+1,.nil=>.nil
 |_,_,n+1,.cons _ t=>Vals.drop n t
theorem Vals.none_of:∀{xs:List V}{us:List Value}{i:Nat},Vals xs us->xs[i]?=none->us[i]?=none:=fun {xs us i} r e=>by
 have h1:=r.length
 have h2:xs.length≤i:=List.getElem?_eq_none_iff.mp e
 exact List.getElem?_eq_none_iff.mpr (by omega)
def RelO:Option V->Option Value->Prop
 |some v,some u=>RelV v u
 |none,none=>True
 |_,_=>False
def KV{κ:Type}:List (κ×V)->List (κ×Value)->Prop:=Paired fun (p:κ×V) (q:κ×Value)=>p.1=q.1∧RelV p.2 q.2
def kV:Key->V
 |.inl i=>.int i
 |.inr x=>.str x
inductive HO where
 /-- a list -/
 |lst (xs:List V)
 /-- a tuple (never changes) -/
 |tup (xs:List V)
 /-- a dict whose keys are ints and texts;one whose keys are tuples of ints and texts (the empty one is both) -/
 |dK (kvs:List (Key×V)) | dT (kvs:List (List Key×V))
 /-- a set of ints: its members,its size -/
 |set (S:Int->Bool) (n:Nat)
 /-- an instance of the class at C,its dict at dx,its attributes -/
 |ins (C dx:Addr) (fs:List (Str×V))
 /-- the dict of the instance at x -/
 |own (x:Addr)
 /-- the dict of an exception -/
 |xd (fs:List (Str×V))
 /-- a bound method,f of x -/
 |met (f x:Addr)
 /-- a range object lo,lo+1,.. below hi -/
 |rng (lo hi:Int)
 /-- a thing that is known to the object (the script;a dict while a loop walks it): read,never written while it is so -/
 |frz (o:Obj) (u:HO)
 /-- a code object's table -/
 |tbl (ps:Array Value)
 /-- any other thing,by what is true of its one object (a def of one's own: SetO a S n:=HO.ext fun h=>..) -/
 |ext (φ:Heap->Prop)
abbrev Hp:=Addr->Option HO
def upd(H:Hp)(a:Addr)(o:HO):Hp:=fun b=>if b=a then some o else H b
theorem upd_same{H:Hp}{a:Addr}{o:HO}:upd H a o a=some o:=by unfold upd;rw[if_pos rfl]
theorem upd_ne{H:Hp}{a b:Addr}{o:HO}(h:b≠a):upd H a o b=H b:=by unfold upd;rw[if_neg h]
theorem ne_of_none{H:Hp}{a b:Addr}{o:HO}(h:H a=some o)(h':H b=none):a≠b:=by
 intro e;subst e;rw[h] at h';cases h'
def RecAt(H:Hp)(v:Value):Prop:=∃c o fs q t,v=.ref c∧H c=some (.frz o (.own c))∧o.data=.fields fs∧fs[1]?=some (.str q t)
section
variable(P:Program)(w:World)
def ObjOk (H:Hp) (h:Heap) (a:Addr):HO->Prop
 |.lst xs=>xs.length≤sizeLine∧∃(its:List Value) (n:Nat),Vals xs its∧h.get? a=some { cls:=.type "list",data:=.seq its.toArray n }
 |.tup xs=>xs.length≤sizeLine∧∃its:List Value,Vals xs its∧IsTup h a its.toArray
 |.dK kvs=>kvs.length≤sizeLine∧(a==sysModules)=false∧∃vs,KV kvs vs∧h.DictOf (mixKind P w) a vs
 |.dT kvs=>kvs.length≤sizeLine∧(a==sysModules)=false∧∃xs:List (List Key×Addr×Value),
   Paired (fun (p:List Key×V) (q:List Key×Addr×Value)=>p.1=q.1∧H q.2.1=some (.tup (p.1.map kV))∧RelV p.2 q.2.2) kvs xs ∧
   ∃o es ep,h.get? a=some o∧o.ExactDict∧o.data=.dict es ep∧es.toList=xs.map (entryOfKey (tupleKind (mixKind P w)))∧(xs.map (·.1)).Nodup
 |.set S n=>h.SetOf (intKind P w) a S n
 |.ins C dx fs=>H dx=some (.own a)∧fs.length≤1000∧dx≠a∧h.get? a=some (PySem.W.instObj C dx) ∧
   ∃mA,h.Ns1 dx mA∧(∀f,RelO (fs.lookup f) (mA f))∧PySem.Within mA (fs.map (·.1))
 |.own _=>∃o,h.get? a=some o
 |.xd fs=>∃mA,h.Ns1 a mA∧∀f,RelO (fs.lookup f) (mA f)
 |.rng lo hi=>∃t u v,h.get? a=some { cls:=.type "range",data:=.fields #[.int lo t,.int hi u,.int 1 v] }
 |.frz o u=>h.get? a=some o∧ObjOk H h a u
 |.tbl _=>∃ps:Array Value,h.get? a=some { cls:=.none,data:=.fields ps }∧TriplesOk ps.toList∧∀pos cv,codeAmong pos ps.toList=some cv->RecAt H cv
 |.met f x=>h.get? a=some (PySem.W.methodObj (.ref f) (.ref x))
 |.ext φ=>φ h∧(∃o,h.get? a=some o)∧∀h1 h2:Heap,φ h1->(∀o,h1.get? a=some o->h2.get? a=some o)->φ h2
def HOk(H:Hp)(h:Heap):Prop:=∀a o,H a=some o->ObjOk P w H h a o
end
section
variable{P:Program}{w:World}{H H':Hp}{h h':Heap}{a:Addr}{o:HO}
theorem ObjOk.lt(x:ObjOk P w H h a o):a<h.objs.size:=by
 cases o with
 |lst xs=>obtain⟨_,_,_,_,e⟩:=x;exact Heap.lt_size e
 |tup xs=>obtain⟨_,_,_,p⟩:=x;exact p.lt
 |dK kvs=>obtain⟨_,_,_,_,o,_,_,e,_⟩:=x;exact Heap.lt_size e
 |dT kvs=>obtain⟨_,_,_,_,o,_,_,e,_⟩:=x;exact Heap.lt_size e
 |set S n=>obtain⟨o,_,_,_,e,_⟩:=x;exact Heap.lt_size e
 |ins C dx fs=>obtain⟨_,_,_,e,_⟩:=x;exact Heap.lt_size e
 |own y=>obtain⟨_,e⟩:=x;exact Heap.lt_size e
 |xd fs=>obtain⟨_,⟨_,_,_,e,_⟩,_⟩:=x;exact Heap.lt_size e
 |rng lo hi=>obtain⟨_,_,_,e⟩:=x;exact Heap.lt_size e
 |frz ob u=>obtain⟨e,_⟩:=x;exact Heap.lt_size e
 |tbl ps=>obtain⟨_,e,_⟩:=x;exact Heap.lt_size e
 |met f y=>exact Heap.lt_size (show h.get? a=some _ from x)
 |ext φ=>obtain⟨_,⟨_,e⟩,_⟩:=x;exact Heap.lt_size e
theorem Paired.mapP{α β:Type}{F G:α->β->Prop}:∀{l₁:List α}{l₂:List β},Paired F l₁ l₂->(∀a b,F a b->G a b)->Paired G l₁ l₂
 |_,_,.nil,_=>.nil
 |_,_,.cons r t,f=>.cons (f _ _ r) (Paired.mapP t f)
theorem ObjOk.stay (x:ObjOk P w H h a o) (k:∀ b u,(b=a∨H b=some (.own a))->h.get? b=some u->h'.get? b=some u)
  (ho:∀b,H b=some (.own a)->H' b=some (.own a)) (ht:∀b xs,H b=some (.tup xs)->H' b=some (.tup xs)) (hf:∀b o,H b=some (.frz o (.own b))->H' b=some (.frz o (.own b)):=by exact fun _ _ q=>q):ObjOk P w H' h' a o:=by
 induction o with
 |lst xs=>obtain⟨z,its,n,r,e⟩:=x;exact⟨z,its,n,r,k _ _ (.inl rfl) e⟩
 |tup xs=>obtain⟨z,its,r,ob,e,c⟩:=x;exact⟨z,its,r,ob,k _ _ (.inl rfl) e,c⟩
 |dK kvs=>obtain⟨z,y,vs,r,ob,es,ep,e,c⟩:=x;exact⟨z,y,vs,r,ob,es,ep,k _ _ (.inl rfl) e,c⟩
 |dT kvs=>
   obtain⟨z,y,xs,r,ob,es,ep,e,c⟩:=x
   exact⟨z,y,xs,Paired.mapP r fun p q z=>⟨z.1,ht _ _ z.2.1,z.2.2⟩,ob,es,ep,k _ _ (.inl rfl) e,c⟩
 |set S n=>obtain⟨ob,es,ep,t,e,c⟩:=x;exact⟨ob,es,ep,t,k _ _ (.inl rfl) e,c⟩
 |ins C dx fs=>
   obtain⟨d,z,ne,e,mA,⟨od,es,ep,e2,c⟩,r⟩:=x
   exact⟨ho _ d,z,ne,k _ _ (.inl rfl) e,mA,⟨od,es,ep,k _ _ (.inr d) e2,c⟩,r⟩
 |own y=>obtain⟨ob,e⟩:=x;exact⟨ob,k _ _ (.inl rfl) e⟩
 |xd fs=>obtain⟨mA,⟨od,es,ep,e,c⟩,r⟩:=x;exact⟨mA,⟨od,es,ep,k _ _ (.inl rfl) e,c⟩,r⟩
 |rng lo hi=>obtain⟨t,u,v,e⟩:=x;exact⟨t,u,v,k _ _ (.inl rfl) e⟩
 |frz ob u ih=>obtain⟨e,q⟩:=x;exact⟨k _ _ (.inl rfl) e,ih q⟩
 |tbl ps=>
   obtain⟨ps',e,z,r⟩:=x
   exact⟨ps',k a _ (.inl rfl) e,z,fun pos cv q=>let ⟨c,o,fs,q',t,g1,g2,g3⟩:=r pos cv q;⟨c,o,fs,q',t,g1,hf c o g2,g3⟩⟩
 |met f y=>
   have e:h.get? a=some (PySem.W.methodObj (.ref f) (.ref y)):=x
   show h'.get? a=some (PySem.W.methodObj (.ref f) (.ref y))
   exact k a _ (.inl rfl) e
 |ext φ=>obtain⟨p,⟨o,e⟩,st⟩:=x;exact⟨st _ _ p fun o q=>k _ _ (.inl rfl) q,⟨o,k _ _ (.inl rfl) e⟩,st⟩
theorem HOk.lt(x:HOk P w H h)(e:H a=some o):a<h.objs.size:=(x a o e).lt
theorem HOk.fresh(x:HOk P w H h)(e:h.objs.size≤a):H a=none:=by
 cases q:H a with
 |none=>rfl
 |some u=>exact absurd (Nat.lt_of_lt_of_le (x.lt q) e) (Nat.lt_irrefl _)
theorem HOk.kept(x:HOk P w H h)(k:∀b u,h.get? b=some u->h'.get? b=some u):HOk P w H h':=fun a o e=>
 (x a o e).stay (fun b u _ q=>k b u q) (fun _ q=>q) fun _ _ q=>q
theorem HOk.laid(x:HOk P w H h)(k:∀b u,h.get? b=some u->h'.get? b=some u)(hp:h.objs.size≤a)(new:ObjOk P w (upd H a o) h' a o):HOk P w (upd H a o) h':=fun b u e=>by
 have hn:=x.fresh hp
 by_cases hb:b=a
 ·subst hb;rw[upd_same] at e;cases e;exact new
 ·rw[upd_ne hb] at e
  exact (x b u e).stay (fun c v _ q=>k c v q) (fun c q=>by rw[upd_ne (ne_of_none q hn)];exact q) (fun c xs q=>by rw[upd_ne (ne_of_none q hn)];exact q) fun c o q=>by rw[upd_ne (ne_of_none q hn)];exact q
end
def Rd(H:Hp)(a:Addr)(u:HO):Prop:=H a=some u∨∃o,H a=some (.frz o u)
theorem Rd.ok{P:Program}{w:World}{H:Hp}{h:Heap}{a:Addr}{u:HO}(r:Rd H a u)(x:HOk P w H h):ObjOk P w H h a u:=by
 rcases r with r | ⟨o,r⟩
 ·exact x a u r
 ·obtain⟨_,q⟩:=x a _ r
  exact q
def Mut:Option HO->Prop
 |some (.lst _)=>True
 |some (.dK _)=>True
 |some (.dT _)=>True
 |some (.set _ _)=>True
 |some (.ins _ _ _)=>True
 |some (.ext _)=>True
 |_=>False
section
variable{P:Program}{w:World}{H:Hp}{h h':Heap}{x e:Addr}{o':HO}
theorem HOk.write (ok:HOk P w H h) (mu:Mut (H x)) (he:e=x∨H e=some (.own x)) (k:∀ b u,b≠e->h.get? b=some u->h'.get? b=some u) (heo:∃ u,h'.get? e=some u)
  (new:ObjOk P w (upd H x o') h' x o'):HOk P w (upd H x o') h':=fun b u q=>by
 have nown:∀c y,H c=some (.own y)->c≠x:=fun c y r z=>by subst z;rw[r] at mu;exact mu
 have ntup:∀c xs,H c=some (.tup xs)->c≠x:=fun c xs r z=>by subst z;rw[r] at mu;exact mu
 have nfrz:∀c o u,H c=some (.frz o u)->c≠x:=fun c o u r z=>by subst z;rw[r] at mu;exact mu
 by_cases hb:b=x
 ·subst hb;rw[upd_same] at q;cases q;exact new
 ·rw [upd_ne hb] at q
  by_cases hbe:b=e
  ·have q':H b=some (.own x):=by
    rcases he with z | z
    ·exact absurd (hbe.trans z) hb
    ·rw[hbe];exact z
   rw[q] at q';cases q'
   obtain⟨v,hv⟩:=heo
   exact⟨v,by rw[hbe];exact hv⟩
  ·refine (ok b u q).stay (fun c v hc r=>k c v ?_ r) (fun c r=>by rw[upd_ne (nown c b r)];exact r) (fun c xs r=>by rw[upd_ne (ntup c xs r)];exact r) fun c o r=>by rw[upd_ne (nfrz c o _ r)];exact r
   rcases hc with rfl | hc
   ·exact hbe
   ·rintro rfl
    rcases he with z | z
    ·exact nown c b hc z
    ·rw[hc] at z;cases z;exact hb rfl
end
structure Un(fs ex:List Addr)(H H':Hp)(h h':Heap):Prop where
 keep:∀b o,h.get? b=some o->H b=none->b∉fs->b∉ex->h'.get? b=some o
 slot:∀b o,h.get? b=some o->H b=none->b∈fs->b∉ex->∃sl,h'.get? b=some { o with slots:=sl }
 free:∀b o,h.get? b=some o->H b=none->b∉ex->H' b=none
 there:∀b o,h.get? b=some o->b∉ex->∃o',h'.get? b=some o'
 tups:∀b xs,H b=some (.tup xs)->H' b=some (.tup xs)
 frzs:∀b o u,H b=some (.frz o u)->H' b=some (.frz o u)
 tbls:∀b ps,H b=some (.tbl ps)->∃more,H' b=some (.tbl (ps++more))
section
variable{fs fs' ex ex':List Addr}{H H1 H2:Hp}{h h1 h2 h':Heap}{a x e:Addr}{o:HO}
theorem Un.any(u:Un fs ex H H1 h h1){b:Addr}{ob:Obj}(q:h.get? b=some ob)(n:H b=none)(hx:b∉ex):∃sl,h1.get? b=some { ob with slots:=sl }:=by
 by_cases hb:b∈fs
 ·exact u.slot b ob q n hb hx
 ·exact⟨ob.slots,u.keep b ob q n hb hx⟩
theorem Un.trans(a:Un fs ex H H1 h h1)(b:Un fs ex H1 H2 h1 h2):Un fs ex H H2 h h2 where
 keep:=fun c ob q n hc hx=>b.keep c ob (a.keep c ob q n hc hx) (a.free c ob q n hx) hc hx
 slot:=fun c ob q n hc hx=>by
  obtain⟨sl,e1⟩:=a.slot c ob q n hc hx
  obtain⟨sl',e2⟩:=b.slot c _ e1 (a.free c ob q n hx) hc hx
  exact⟨sl',e2⟩
 free:=fun c ob q n hx=>by
  obtain⟨o',e1⟩:=a.there c ob q hx
  exact b.free c o' e1 (a.free c ob q n hx) hx
 there:=fun c ob q hx=>by
  obtain⟨o',e1⟩:=a.there c ob q hx
  exact b.there c o' e1 hx
 tups:=fun c xs q=>b.tups c xs (a.tups c xs q)
 frzs:=fun c ob xs q=>b.frzs c ob xs (a.frzs c ob xs q)
 tbls:=fun c ps q=>by
  obtain⟨m1,e1⟩:=a.tbls c ps q
  obtain⟨m2,e2⟩:=b.tbls c _ e1
  exact⟨m1++m2,by rw[e2,Array.append_assoc]⟩
theorem Un.kept(k:∀b u,h.get? b=some u->h'.get? b=some u):Un fs ex H H h h':=
 ⟨fun b ob q _ _ _=>k b ob q,fun b ob q _ _ _=>⟨ob.slots,k b ob q⟩,fun _ _ _ n _=>n,fun b ob q _=>⟨ob,k b ob q⟩,fun _ _ q=>q,fun _ _ _ q=>q,fun _ ps q=>⟨#[],by rw[q];simp⟩⟩
theorem Un.refl:Un fs ex H H h h:=Un.kept fun _ _ q=>q
theorem Un.laid(k:∀b u,h.get? b=some u->h'.get? b=some u)(hp:h.objs.size≤a)(hn:H a=none):Un fs ex H (upd H a o) h h' where
 keep:=fun b u q _ _ _=>k b u q
 slot:=fun b u q _ _ _=>⟨u.slots,k b u q⟩
 free:=fun b u q n _=>by rw[upd_ne (Nat.ne_of_lt (Nat.lt_of_lt_of_le (Heap.lt_size q) hp))];exact n
 there:=fun b u q _=>⟨u,k b u q⟩
 tups:=fun b xs q=>by rw[upd_ne (ne_of_none q hn)];exact q
 frzs:=fun b u xs q=>by rw[upd_ne (ne_of_none q hn)];exact q
 tbls:=fun b ps q=>⟨#[],by rw[upd_ne (ne_of_none q hn),q];simp⟩
theorem Un.write(mu:Mut (H x))(he:e=x∨H e=some (.own x))(k:∀b u,b≠e->h.get? b=some u->h'.get? b=some u)(heo:∃u,h'.get? e=some u):Un fs ex H (upd H x o) h h':=by
 have hx:∀b,H b=none->b≠x:=fun b n z=>by subst z;rw[n] at mu;exact mu
 have hb:∀b,H b=none->b≠e:=fun b n z=>by
  subst z
  rcases he with r | r
  ·exact hx b n r
  ·rw[n] at r;cases r
 have hm:∀b u,H b=some u->¬ Mut (some u)->b≠x:=fun b u q nm z=>by subst z;rw[q] at mu;exact nm mu
 refine⟨fun b u q n _ _=>k b u (hb b n) q,fun b u q n _ _=>⟨u.slots,k b u (hb b n) q⟩,fun b u q n _=>by rw[upd_ne (hx b n)];exact n,fun b u q _=>?_,
  fun b xs q=>by rw[upd_ne (hm b _ q fun z=>z)];exact q,fun b u xs q=>by rw[upd_ne (hm b _ q fun z=>z)];exact q,fun b ps q=>⟨#[],by rw[upd_ne (hm b _ q fun z=>z),q];simp⟩⟩
 by_cases hbe:b=e
 ·subst hbe;exact heo
 ·exact⟨u,k b u hbe q⟩
end
def trk(h:Heap)(H:Hp):List Addr:=(List.range h.objs.size).filter fun a=>(H a).isSome
def hidT(h:Heap)(H:Hp):Heap:=PySem.W.hideAll h (trk h H)
theorem hidT_size(h:Heap)(H:Hp):(hidT h H).objs.size=h.objs.size:=PySem.W.hideAll_size _ _
theorem hidT_get{h:Heap}{H:Hp}{b:Addr}{o:Obj}(e:h.get? b=some o)(n:H b=none):(hidT h H).get? b=some o:=
 PySem.W.hideAll_get _ e fun hm=>by
  have q:(H b).isSome=true:=(List.mem_filter.mp hm).2
  rw[n] at q;simp at q
theorem of_hidT {h:Heap}{H:Hp}{b:Addr}{o:Obj} (e:(hidT h H).get? b=some o):h.get? b=some o∧H b=none:=by
 have e':h.get? b=some o:=PySem.W.of_hideAll (trk h H) e
 refine⟨e',?_⟩
 cases q:H b with
 |none=>rfl
 |some x=>
   have hm:b∈trk h H:=List.mem_filter.mpr ⟨List.mem_range.mpr (Heap.lt_size e'),by simp[q]⟩
   have z:(hidT h H).get? b=none:=PySem.W.hideAll_none (trk h H) hm
   rw[z] at e;cases e
def allNews(g h:Heap)(L:Addr):List (Addr×Obj):=(List.range h.objs.size).filterMap fun a=>if a=L∨(g.get? a).isSome=true then none else (h.get? a).map fun o=>(a,o)
def rest(g h:Heap)(L d:Addr):List (Addr×Obj):=(allNews g h L).filter fun p=>decide (p.1≠d)
open PySem PySem.Spec PyProof.Rows
structure Mod(K:PySem.W.Frag)(mg:Str->Option Value)(base:Heap):Prop where
 kin:K.In base
 glob:base.Ns mainGlobals mg
 blt:∃mb,base.Ns builtinsNs mb∧∀x:Str,x≠"__name__"->mb x=bootBuiltins x
 nolimit:base.NoLimit
structure Cx where
 prog:Program
 w:World
 K:PySem.W.Frag
 mg:Str->Option Value
 base:Heap
 A:Around
 N:List Str
 s₀:Shared
 H₀:Hp
 env:Env
 outer:List Env
 stack:List Env
 ex:List Addr
 fn:Str->Bool
 calm:Bool
 pn:List (Addr×Obj)
 xe:Value->Shared->Prop
def frs(l:List Env):List Addr:=l.filterMap (·.frame)
abbrev Cx.fs(X:Cx):List Addr:=frs X.outer
def Vis(sc:Scope)(x:Str):Prop:=sc.names.lookup x=some .local∨sc.names.lookup x=some .cell∨sc.names.lookup x=some .free
def Loc(sc:Scope)(x:Str):Prop:=sc.names.lookup x=some .local∨sc.names.lookup x=some .cell
def Look(env:Env)(h:Heap)(m:Str->Option Value)(x:Str)(u:Value):Prop:=
 (env.kindOf x=some .local∧m x=some u)∨((env.kindOf x=some .cell∨env.kindOf x=some .free)∧∃c,env.cells.lookup x=some c∧h.IsCell c (some u))
structure Cx.Ok(X:Cx):Prop where
 mod:Mod X.K X.mg X.base
 kind:X.env.scope.kind=.function
 glob:X.env.globals=mainGlobals
 blt:X.env.builtins=builtinsNs
 above:X.s₀.heap.objs.size≤X.env.locals
 inj:∀x y c,X.env.cells.lookup x=some c->X.env.cells.lookup y=some c->x=y
 has:∀x,(X.env.kindOf x=some .cell∨X.env.kindOf x=some .free)->∃c,X.env.cells.lookup x=some c
 cab:∀x c,X.fn x=true->X.env.cells.lookup x=some c->X.s₀.heap.objs.size≤c
 hd:X.calm=true->X.A.handled=none
 frames:X.A.frames=some X.stack
 stk:X.stack=X.outer∨(X.stack=X.env::X.outer∧X.env.frame=some X.env.locals)
 exf:∀b∈X.ex,b≠X.env.locals∧∀x c,X.env.cells.lookup x=some c->c≠b
 bs:∀b o,X.base.get? b=some o->X.s₀.heap.get? b=some o∧X.H₀ b=none
 bsz:X.base.objs.size≤X.s₀.heap.objs.size
 noex:∀b o,X.base.get? b=some o->b∉X.ex
 exfs:∀b∈X.ex,b∉X.fs
 funs:X.s₀.heap.FunFrames X.base X.outer
 frf:∀b∈X.fs,X.H₀ b=none
structure Inv(X:Cx)(pins:List (Addr×Obj))(σ:List (Option V))(H:Hp)(s:Shared):Prop where
 ok:X.Ok
 os:s.os=X.s₀.os
 bare:AllBare s.gens
 base:Un X.fs X.ex X.H₀ H X.s₀.heap s.heap
 loc:∃m,s.heap.Ns X.env.locals m∧∀(i:Nat) (x:Str) (v:V),X.N[i]?=some x->σ[i]?=some (some v)->Vis X.env.scope x->∃u,RelV v u∧Look X.env s.heap m x u
 cell:∀x c,X.env.cells.lookup x=some c->∃v,s.heap.IsCell c v
 free:H X.env.locals=none
 freeC:∀x c,X.env.cells.lookup x=some c->H c=none
 pin:∀p∈X.pn++pins,s.heap.get? p.1=some p.2∧H p.1=none∧p.1≠X.env.locals∧p.1∉X.fs∧∀v,p.2.data≠.cell v
 hok:HOk X.prog X.w H s.heap
 len:σ.length=X.N.length
section
variable{X:Cx}{pins:List (Addr×Obj)}{σ:List (Option V)}{H H':Hp}{s:Shared}{h':Heap}
theorem Cx.Ok.nofr(ok:X.Ok){b:Addr}{o:Obj}(e:X.base.get? b=some o):b∉X.fs:=fun hb=>by
 have:=(ok.funs.mem hb).1
 rw[e] at this;cases this
theorem Inv.bs(I:Inv X pins σ H s):∀b o,X.base.get? b=some o->s.heap.get? b=some o∧H b=none:=fun b o e=>
 ⟨I.base.keep b o (I.ok.bs b o e).1 (I.ok.bs b o e).2 (I.ok.nofr e) (I.ok.noex b o e),I.base.free b o (I.ok.bs b o e).1 (I.ok.bs b o e).2 (I.ok.noex b o e)⟩
theorem Inv.bk(I:Inv X pins σ H s):∀b o,X.base.get? b=some o->s.heap.get? b=some o:=fun b o e=>(I.bs b o e).1
theorem Inv.mod(I:Inv X pins σ H s):Mod X.K X.mg X.base:=I.ok.mod
theorem Inv.kIn(I:Inv X pins σ H s):X.K.In s.heap:=I.ok.mod.kin.keeps I.bk
theorem Inv.fr(I:Inv X pins σ H s):∃m,Fr X.base X.env.locals s.heap m:=
 let ⟨m,hn,_⟩:=I.loc
 ⟨m,hn,I.bk,Nat.le_trans I.ok.bsz I.ok.above⟩
theorem Inv.lt(I:Inv X pins σ H s):X.env.locals<s.heap.objs.size:=let ⟨_,hn,_⟩:=I.loc;hn.lt
theorem Inv.sz(I:Inv X pins σ H s):X.s₀.heap.objs.size≤s.heap.objs.size:=Nat.le_trans I.ok.above (Nat.le_of_lt I.lt)
theorem Inv.nofs(I:Inv X pins σ H s){a:Addr}(h:s.heap.objs.size≤a):a∉X.fs:=fun hb=>by
 obtain⟨_,o,ho,_⟩:=I.ok.funs.mem hb
 exact absurd (Nat.lt_of_lt_of_le (Heap.lt_size ho) (Nat.le_trans I.sz h)) (Nat.lt_irrefl _)
theorem Inv.cne(I:Inv X pins σ H s):∀x c,X.env.cells.lookup x=some c->c≠X.env.locals:=fun x c e z=>by
 obtain⟨v,o,ho,hd⟩:=I.cell x c e
 obtain⟨m,⟨o',es,ep,ho',hd',_⟩,_⟩:=I.loc
 rw[z,ho'] at ho;cases ho;rw[hd'] at hd;cases hd
theorem Inv.funs (I:Inv X pins σ H s):s.heap.FunFrames X.base X.outer:=by
 have all:∀ (l:List Env),(∀ b∈frs l,b∈X.fs)->X.s₀.heap.FunFrames X.base l->s.heap.FunFrames X.base l:=by
  intro l
  induction l with
  |nil=>intro _ _;trivial
  |cons env r ih=>
    intro hs hl
    obtain⟨hk,⟨L,o,hf,hn,ho,hd⟩,hr⟩:=hl
    have hL:L∈X.fs:=hs L (by unfold frs;rw[List.filterMap_cons,hf];exact List.mem_cons_self)
    obtain⟨sl,e⟩:=I.base.slot L o ho (I.ok.frf L hL) hL fun z=>I.ok.exfs L z hL
    exact⟨hk,⟨L,_,hf,hn,e,hd⟩,ih (fun b hb=>hs b (by unfold frs;rw[List.filterMap_cons,hf];exact List.mem_cons_of_mem _ hb)) hr⟩
 exact all X.outer (fun _ hb=>hb) I.ok.funs
theorem Inv.stack(I:Inv X pins σ H s):s.heap.FunFrames X.base X.stack:=by
 rcases I.ok.stk with e | ⟨e,hf⟩
 ·rw[e];exact I.funs
 ·rw[e]
  obtain⟨m,hn,_⟩:=I.loc
  refine .cons (by rw[I.ok.kind];decide) hf hn ?_ I.funs
  exact Heap.get?_none_of_le (Nat.le_trans I.ok.bsz I.ok.above)
theorem Inv.stkSub(I:Inv X pins σ H s):∀b∈frs X.stack,b∈X.env.locals::X.fs:=fun b hb=>by
 rcases I.ok.stk with e | ⟨e,hf⟩
 ·rw[e] at hb;exact List.mem_cons_of_mem _ hb
 ·rw[e] at hb
  unfold frs at hb
  rw[List.filterMap_cons,hf] at hb
  exact hb
theorem Inv.stkFree(I:Inv X pins σ H s):∀b∈frs X.stack,H b=none:=fun b hb=>by
 rcases List.mem_cons.mp (I.stkSub b hb) with e | hb
 ·rw[e];exact I.free
 ·obtain⟨_,o,ho,_⟩:=I.ok.funs.mem hb
  exact I.base.free b o ho (I.ok.frf b hb) fun z=>I.ok.exfs b z hb
theorem Inv.step {g':Array GenState}{t':Nat}{d':Drawn}{ch:List Addr} (I:Inv X pins σ H s)
  (hch:∀b∈ch,(b∈X.ex∨X.s₀.heap.objs.size≤b)∧b≠X.env.locals∧(∀x c,X.env.cells.lookup x=some c->c≠b)∧∀p∈X.pn++pins,p.1≠b)
  (keep:∀b o,b≠X.env.locals->b∉X.fs->b∉ch->s.heap.get? b=some o->H b=none->h'.get? b=some o)
  (slot:∀b o,b≠X.env.locals->b∈X.fs->b∉ch->s.heap.get? b=some o->H b=none->∃sl,h'.get? b=some { o with slots:=sl }) (free:∀b o,b∉ch->s.heap.get? b=some o->H b=none->H' b=none)
  (there:∀b o,b∉ch->s.heap.get? b=some o->∃o',h'.get? b=some o')
  (tups:∀b xs,H b=some (.tup xs)->H' b=some (.tup xs)) (frzs:∀b o u,H b=some (.frz o u)->H' b=some (.frz o u)) (tbls:∀b ps,H b=some (.tbl ps)->∃more,H' b=some (.tbl (ps++more)))
  (ns:∀m,s.heap.Ns X.env.locals m->h'.Ns X.env.locals m) (hok:HOk X.prog X.w H' h') (hg:AllBare g') :
  Inv X pins σ H' { s with heap:=h',gens:=g',drawn:=d',toks:=t' }:=by
 have neL:∀b o,X.s₀.heap.get? b=some o->b≠X.env.locals:=fun b o e=>Nat.ne_of_lt (Nat.lt_of_lt_of_le (Heap.lt_size e) I.ok.above)
 have neC:∀b o,X.s₀.heap.get? b=some o->b∉X.ex->b∉ch:=fun b o e hx hb=>by
  rcases (hch b hb).1 with z | z
  ·exact hx z
  ·exact absurd (Nat.lt_of_lt_of_le (Heap.lt_size e) z) (Nat.lt_irrefl _)
 have cellK:∀x c,X.env.cells.lookup x=some c->∀v,s.heap.IsCell c v->h'.IsCell c v:=fun x c e v ⟨o,ho,hd⟩=>by
  have nch:c∉ch:=fun z=>(hch c z).2.2.1 x c e rfl
  by_cases hc:c∈X.fs
  ·obtain⟨sl,q⟩:=slot c o (I.cne x c e) hc nch ho (I.freeC x c e)
   exact⟨_,q,hd⟩
  ·exact⟨o,keep c o (I.cne x c e) hc nch ho (I.freeC x c e),hd⟩
 refine⟨I.ok,I.os,hg,⟨fun b o e n hb hx=>?_,fun b o e n hb hx=>?_,fun b o e n hx=>?_,fun b o e hx=>?_,fun b xs e=>tups b xs (I.base.tups b xs e),fun b o xs e=>frzs b o xs (I.base.frzs b o xs e),fun b ps e=>?_⟩,?_,fun x c e=>?_,?_,fun x c e=>?_,fun p hp=>?_,hok,I.len⟩
 ·exact keep b o (neL b o e) hb (neC b o e hx) (I.base.keep b o e n hb hx) (I.base.free b o e n hx)
 ·obtain⟨sl,e1⟩:=I.base.slot b o e n hb hx
  obtain⟨sl',e2⟩:=slot b _ (neL b o e) hb (neC b o e hx) e1 (I.base.free b o e n hx)
  exact⟨sl',e2⟩
 ·obtain⟨o',e1⟩:=I.base.there b o e hx
  exact free b o' (neC b o e hx) e1 (I.base.free b o e n hx)
 ·obtain⟨o',e1⟩:=I.base.there b o e hx
  exact there b o' (neC b o e hx) e1
 ·obtain⟨m1,e1⟩:=I.base.tbls b ps e
  obtain⟨m2,e2⟩:=tbls b _ e1
  exact⟨m1++m2,by rw[e2,Array.append_assoc]⟩
 ·obtain⟨m,hn,hl⟩:=I.loc
  refine⟨m,ns m hn,fun i x v e1 e2 e3=>?_⟩
  obtain⟨u,r,l⟩:=hl i x v e1 e2 e3
  refine⟨u,r,?_⟩
  rcases l with l | ⟨k,c,e,z⟩
  ·exact .inl l
  ·exact .inr ⟨k,c,e,cellK x c e _ z⟩
 ·obtain⟨v,z⟩:=I.cell x c e
  exact⟨v,cellK x c e v z⟩
 ·obtain⟨m,⟨o,_,_,ho,_⟩,_⟩:=I.loc
  exact free _ o (fun z=>(hch _ z).2.1 rfl) ho I.free
 ·obtain⟨v,o,ho,hd⟩:=I.cell x c e
  exact free c o (fun z=>(hch c z).2.2.1 x c e rfl) ho (I.freeC x c e)
 ·obtain⟨e,n,ne,nf,d⟩:=I.pin p hp
  have nch:p.1∉ch:=fun z=>(hch p.1 z).2.2.2 p hp rfl
  exact⟨keep p.1 p.2 ne nf nch e n,free p.1 p.2 nch e n,ne,nf,d⟩
theorem Inv.un{t':Nat}(I:Inv X pins σ H s)(u:Un X.fs [] H H' s.heap h')(hok:HOk X.prog X.w H' h'):Inv X pins σ H' { s with heap:=h',toks:=t' }:=by
 obtain⟨m,⟨o,es,ep,ho,r⟩,_⟩:=id I.loc
 obtain⟨sl,hL⟩:=u.any ho I.free (by simp)
 exact I.step (g':=s.gens) (d':=s.drawn) (ch:=[]) (fun _ z=>nomatch z) (fun b o _ hb _ e n=>u.keep b o e n hb (by simp)) (fun b o _ hb _ e n=>u.slot b o e n hb (by simp)) (fun b o _ e n=>u.free b o e n (by simp)) (fun b o _ e=>u.there b o e (by simp)) u.tups u.frzs u.tbls (fun m' hm=>by
  obtain⟨o',es',ep',ho',r'⟩:=hm
  rw[ho] at ho';cases ho'
  exact⟨_,es',ep',hL,r'⟩) hok I.bare
theorem Inv.call{g':Array GenState}{t':Nat}{d':Drawn}{ch:List Addr}(I:Inv X pins σ H s)(u:Un (frs X.stack) ch H H' s.heap h')(hok:HOk X.prog X.w H' h')(hg:AllBare g')
  (hch:∀b∈ch,(b∈X.ex∨X.s₀.heap.objs.size≤b)∧b≠X.env.locals∧(∀x c,X.env.cells.lookup x=some c->c≠b)∧∀p∈X.pn++pins,p.1≠b) :
  Inv X pins σ H' { s with heap:=h',gens:=g',drawn:=d',toks:=t' }:=by
 obtain⟨m,⟨o,es,ep,ho,r⟩,_⟩:=id I.loc
 obtain⟨sl,hL⟩:=u.any ho I.free fun z=>(hch _ z).2.1 rfl
 exact I.step (ch:=ch) hch (fun b o hL hb hc e n=>u.keep b o e n (fun z=>(List.mem_cons.mp (I.stkSub b z)).elim hL hb) hc) (fun b o _ _ hc e n=>u.any e n hc) (fun b o hc e n=>u.free b o e n hc) (fun b o hc e=>u.there b o e hc) u.tups u.frzs u.tbls (fun m' hm=>by
  obtain⟨o',es',ep',ho',r'⟩:=hm
  rw[ho] at ho';cases ho'
  exact⟨_,es',ep',hL,r'⟩) hok hg
theorem Inv.turned{t':Nat}{it:Addr}(I:Inv X pins σ H s)(k:∀b o,b≠it->s.heap.get? b=some o->h'.get? b=some o)(hn:H it=none)(hL:it≠X.env.locals)
  (h1:it∈X.ex∨X.s₀.heap.objs.size≤it) (h2:∀x c,X.env.cells.lookup x=some c->c≠it) (h3:∀p∈X.pn++pins,p.1≠it):Inv X pins σ H { s with heap:=h',toks:=t' }:=by
 have nit:∀b u,H b=some u->b≠it:=fun b u e z=>by rw[z,hn] at e;cases e
 refine I.step (g':=s.gens) (d':=s.drawn) (ch:=[it]) (fun b hb=>?_) (fun b o _ _ hc e _=>k b o (fun z=>hc (by simp[z])) e) (fun b o _ _ hc e _=>⟨o.slots,k b o (fun z=>hc (by simp[z])) e⟩) (fun _ _ _ _ n=>n)
  (fun b o hc e=>⟨o,k b o (fun z=>hc (by simp[z])) e⟩) (fun _ _ e=>e) (fun _ _ _ e=>e) (fun b ps e=>⟨#[],by rw[e];simp⟩) (fun m hm=>?_) (fun b u e=>?_) I.bare
 ·have e:b=it:=by simpa using hb
  subst e
  exact⟨h1,hL,h2,h3⟩
 ·obtain⟨o,es,ep,ho,r⟩:=hm
  exact⟨o,es,ep,k _ o (Ne.symm hL) ho,r⟩
 ·refine (I.hok b u e).stay (fun c v hc q=>k c v ?_ q) (fun _ q=>q) fun _ _ q=>q
  rcases hc with z | z
  ·rw[z];exact nit b u e
  ·exact nit c _ z
theorem Inv.tok(I:Inv X pins σ H s)(t:Nat):Inv X pins σ H { s with toks:=t }:=I.un (h':=s.heap) (t':=t) Un.refl I.hok
theorem Inv.kept{t':Nat}(I:Inv X pins σ H s)(k:∀b u,s.heap.get? b=some u->h'.get? b=some u):Inv X pins σ H { s with heap:=h',toks:=t' }:=I.un (Un.kept k) (I.hok.kept k)
theorem Inv.laid{a:Addr}{o:HO}{t':Nat}(I:Inv X pins σ H s)(k:∀b u,s.heap.get? b=some u->h'.get? b=some u)(hp:s.heap.objs.size≤a)(new:ObjOk X.prog X.w (upd H a o) h' a o) :
  Inv X pins σ (upd H a o) { s with heap:=h',toks:=t' }:=I.un (Un.laid k hp (I.hok.fresh hp)) (I.hok.laid k hp new)
theorem Inv.write{x e:Addr}{o:HO}{t':Nat}(I:Inv X pins σ H s)(mu:Mut (H x))(he:e=x∨H e=some (.own x))(k:∀b u,b≠e->s.heap.get? b=some u->h'.get? b=some u)(heo:∃u,h'.get? e=some u)
  (new:ObjOk X.prog X.w (upd H x o) h' x o):Inv X pins σ (upd H x o) { s with heap:=h',toks:=t' }:=I.un (Un.write mu he k heo) (I.hok.write mu he k heo new)
theorem Inv.weak{σ':List (Option V)}(I:Inv X pins σ H s)(hl:σ'.length=σ.length)(w:∀(i:Nat) v,σ'[i]?=some (some v)->σ[i]?=some (some v)):Inv X pins σ' H s:=
 ⟨I.ok,I.os,I.bare,I.base,let ⟨m,hn,hl'⟩:=I.loc;⟨m,hn,fun i x v e1 e2 e3=>hl' i x v e1 (w i v e2) e3⟩,I.cell,I.free,I.freeC,I.pin,I.hok,hl.trans I.len⟩
theorem Inv.pins_of{pins':List (Addr×Obj)}(I:Inv X pins σ H s)(h:∀p∈pins',s.heap.get? p.1=some p.2∧H p.1=none∧p.1≠X.env.locals∧p.1∉X.fs∧∀v,p.2.data≠.cell v):Inv X pins' σ H s:=
 ⟨I.ok,I.os,I.bare,I.base,I.loc,I.cell,I.free,I.freeC,fun p hp=>(List.mem_append.mp hp).elim (fun z=>I.pin p (List.mem_append_left _ z)) (h p),I.hok,I.len⟩
theorem nodup_ix{N:List Str}(hN:N.Nodup){i j:Nat}{x:Str}(a:N[i]?=some x)(b:N[j]?=some x):i=j:=by
 obtain⟨h1,e1⟩:=List.getElem?_eq_some_iff.mp a
 obtain⟨h2,e2⟩:=List.getElem?_eq_some_iff.mp b
 exact (List.getElem_inj hN).mp (e1.trans e2.symm)
theorem store_ok2 {M:Model}{A:Around}{E:Value->Shared->Prop}{i:Nat}{x:Str}{v:V}{u:Value}{Q:Unit->Shared->Prop} (I:Inv X pins σ H s) (hN:X.N.Nodup) (hi:X.N[i]?=some x) (hx:Loc X.env.scope x) (r:RelV v u)
  (h:∀s',Inv X pins (σ.set i (some v)) H s'->(∃a,Heap.SameBut a s.heap s'.heap∧(a=X.env.locals∨X.env.cells.lookup x=some a))->Q () s') (hf:X.fn x=true∨X.env.scope.names.lookup x=some .local:=by first | exact .inl rfl | exact .inr rfl | assumption):wpAny M A (storeName X.env x u) Q E s:=by
 obtain⟨m,hn,hl⟩:=id I.loc
 have hcls:(X.env.scope.kind==.class || (X.env.scope.kind==.module&&X.env.locals != X.env.globals))=false:=by rw[I.ok.kind];rfl
 have hiσ:i<σ.length:=by rw[I.len];exact (List.getElem?_eq_some_iff.mp hi).1
 have cne:=I.cne
 have tracked:∀{a:Addr}{h':Heap},(∃o,s.heap.get? a=some o∧H a=none)->Heap.SameBut a s.heap h'->HOk X.prog X.w H h':=fun {a h'} ha hs b ob e=>by
  obtain⟨_,_,hfree⟩:=ha
  refine (I.hok b ob e).stay (fun c w' hc q=>(hs.2 c ?_).trans q) (fun _ q=>q) fun _ _ q=>q
  rintro rfl
  rcases hc with rfl | hc
  ·rw[hfree] at e;cases e
  ·rw[hfree] at hc;cases hc
 rcases hx with hk | hk
 ·refine wpAny_storeName_local hk hn (fun h' hn' hs=>?_) hcls
  obtain⟨oL,_,_,hoL,_⟩:=id hn
  refine h _ ⟨I.ok,I.os,I.bare,⟨fun b o e n hb hx=>?_,fun b o e n hb hx=>?_,I.base.free,fun b o e hx=>?_,I.base.tups,I.base.frzs,I.base.tbls⟩,⟨_,hn',fun j y v' e1 e2 e3=>?_⟩,fun y c e=>?_,I.free,I.freeC,fun p hp=>?_,tracked ⟨oL,hoL,I.free⟩ hs,by simpa using I.len⟩ ⟨_,hs,.inl rfl⟩
  ·exact (hs.2 b (Nat.ne_of_lt (Nat.lt_of_lt_of_le (Heap.lt_size e) I.ok.above))).trans (I.base.keep b o e n hb hx)
  ·obtain⟨sl,e1⟩:=I.base.slot b o e n hb hx
   exact⟨sl,(hs.2 b (Nat.ne_of_lt (Nat.lt_of_lt_of_le (Heap.lt_size e) I.ok.above))).trans e1⟩
  ·obtain⟨o',e1⟩:=I.base.there b o e hx
   exact⟨o',(hs.2 b (Nat.ne_of_lt (Nat.lt_of_lt_of_le (Heap.lt_size e) I.ok.above))).trans e1⟩
  ·by_cases hj:j=i
   ·subst hj
    rw[hi] at e1;cases e1
    rw[List.getElem?_set_self hiσ] at e2
    cases e2
    exact⟨u,r,.inl ⟨hk,by simp⟩⟩
   ·rw[List.getElem?_set_ne (Ne.symm hj)] at e2
    obtain⟨u',r',q⟩:=hl j y v' e1 e2 e3
    refine⟨u',r',?_⟩
    rcases q with ⟨k,e⟩ | ⟨k,c,e,z⟩
    ·refine .inl ⟨k,?_⟩
     have:y≠x:=fun e=>hj (nodup_ix hN e1 (e ▸ hi))
     simp[this,e]
    ·exact .inr ⟨k,c,e,z.sameBut hs (cne y c e)⟩
  ·obtain⟨w',z⟩:=I.cell y c e
   exact⟨w',z.sameBut hs (cne y c e)⟩
  ·obtain⟨e,n,ne,nf,d⟩:=I.pin p hp
   exact⟨(hs.2 p.1 ne).trans e,n,ne,nf,d⟩
 ·have hfn:X.fn x=true:=by
   rcases hf with z | z
   ·exact z
   ·rw[z] at hk;cases hk
  obtain⟨c,hc⟩:=I.ok.has x (.inl hk)
  obtain⟨w',z⟩:=I.cell x c hc
  refine wpAny_storeName_cell I.ok.kind hk hc z (fun h' hc' hs=>?_)
  obtain⟨oc,hoc,hocd⟩:=id z
  refine h { s with heap:=h' } ⟨I.ok,I.os,I.bare,⟨fun b o e n hb hx=>?_,fun b o e n hb hx=>?_,I.base.free,fun b o e hx=>?_,I.base.tups,I.base.frzs,I.base.tbls⟩,⟨m,hn.sameBut hs (Ne.symm (cne x c hc)),fun j y v' e1 e2 e3=>?_⟩,fun y c' e=>?_,I.free,I.freeC,fun p hp=>?_,tracked ⟨oc,hoc,I.freeC x c hc⟩ hs,by simpa using I.len⟩ ⟨c,hs,.inr hc⟩
  ·exact (hs.2 b (Nat.ne_of_lt (Nat.lt_of_lt_of_le (Heap.lt_size e) (I.ok.cab x c hfn hc)))).trans (I.base.keep b o e n hb hx)
  ·obtain⟨sl,e1⟩:=I.base.slot b o e n hb hx
   exact⟨sl,(hs.2 b (Nat.ne_of_lt (Nat.lt_of_lt_of_le (Heap.lt_size e) (I.ok.cab x c hfn hc)))).trans e1⟩
  ·obtain⟨o',e1⟩:=I.base.there b o e hx
   exact⟨o',(hs.2 b (Nat.ne_of_lt (Nat.lt_of_lt_of_le (Heap.lt_size e) (I.ok.cab x c hfn hc)))).trans e1⟩
  ·by_cases hj:j=i
   ·subst hj
    rw[hi] at e1;cases e1
    rw[List.getElem?_set_self hiσ] at e2
    cases e2
    exact⟨u,r,.inr ⟨.inl hk,c,hc,hc'⟩⟩
   ·rw[List.getElem?_set_ne (Ne.symm hj)] at e2
    obtain⟨u',r',q⟩:=hl j y v' e1 e2 e3
    refine⟨u',r',?_⟩
    rcases q with q | ⟨k,c',e,z'⟩
    ·exact .inl q
    ·refine .inr ⟨k,c',e,z'.sameBut hs ?_⟩
     rintro rfl
     exact hj (nodup_ix hN e1 (I.ok.inj _ _ _ e hc ▸ hi))
  ·by_cases hcc:c'=c
   ·subst hcc;exact⟨_,hc'⟩
   ·obtain⟨w2,z2⟩:=I.cell y c' e
    exact⟨w2,z2.sameBut hs hcc⟩
  ·obtain⟨e,n,ne,nf,d⟩:=I.pin p hp
   refine⟨(hs.2 p.1 ?_).trans e,n,ne,nf,d⟩
   intro q
   rw[q,hoc] at e
   have q':oc=p.2:=Option.some.inj e
   exact d w' (by rw[←q'];exact hocd)
theorem store_ok{M:Model}{A:Around}{E:Value->Shared->Prop}{i:Nat}{x:Str}{v:V}{u:Value}{Q:Unit->Shared->Prop}(I:Inv X pins σ H s)(hN:X.N.Nodup)(hi:X.N[i]?=some x)(hx:Loc X.env.scope x)(r:RelV v u)
  (h:∀s',Inv X pins (σ.set i (some v)) H s'->Q () s') (hf:X.fn x=true∨X.env.scope.names.lookup x=some .local:=by first | exact .inl rfl | exact .inr rfl | assumption):wpAny M A (storeName X.env x u) Q E s:=
 store_ok2 I hN hi hx r (fun s' I' _=>h s' I') hf
theorem Inv.call'{s':Shared}{ch:List Addr}(I:Inv X pins σ H s)(ho:s'.os=s.os)(u:Un (frs X.stack) ch H H' s.heap s'.heap)(hok:HOk X.prog X.w H' s'.heap)(hg:AllBare s'.gens)
  (hch:∀b∈ch,(b∈X.ex∨X.s₀.heap.objs.size≤b)∧b≠X.env.locals∧(∀x c,X.env.cells.lookup x=some c->c≠b)∧∀p∈X.pn++pins,p.1≠b):Inv X pins σ H' s':=by
 obtain⟨h',g',d',t',o'⟩:=s'
 have e:o'=s.os:=ho
 subst e
 exact I.call (g':=g') (t':=t') (d':=d') u hok hg hch
end
abbrev XK:=Value->Option Addr->Hp->Prop
abbrev St:=List (Option V)
abbrev VK:=V->Hp->Prop
abbrev TE:=St->Hp->VK->Prop
abbrev TT:=St->Hp->(Bool->Hp->Prop)->Prop
abbrev TA:=St->Hp->(List V->Hp->Prop)->Prop
structure Ends where
 nx:St->Hp->Prop
 rt:VK
 bk:St->Hp->Prop:=fun _ _=>False
 ct:St->Hp->Prop:=fun _ _=>False
abbrev TS:=Ends->St->Hp->Prop
def EP(X:Cx)(pins:List (Addr×Obj))(σ:St)(Q:VK)(u:Value)(s':Shared):Prop:=∃v H',Inv X pins σ H' s'∧RelV v u∧Q v H'
def TP(X:Cx)(pins:List (Addr×Obj))(σ:St)(Q:Bool->Hp->Prop)(b:Bool)(s':Shared):Prop:=∃H',Inv X pins σ H' s'∧Q b H'
def AP(X:Cx)(pins:List (Addr×Obj))(σ:St)(Q:List V->Hp->Prop)(us:List Value)(s':Shared):Prop:=∃vs H',Inv X pins σ H' s'∧Vals vs us∧Q vs H'
def SP(X:Cx)(pins:List (Addr×Obj))(D:Ends)(f:Flow)(s':Shared):Prop:=
 match f with
 |.next=>∃σ' H',Inv X pins σ' H' s'∧D.nx σ' H'
 |.brk=>∃σ' H',Inv X pins σ' H' s'∧D.bk σ' H'
 |.cont=>∃σ' H',Inv X pins σ' H' s'∧D.ct σ' H'
 |.ret u=>∃v σ' H',Inv X pins σ' H' s'∧RelV v u∧D.rt v H'
def PE(X:Cx)(e:Expr)(t:TE):Prop:=
 ∀(pins:List (Addr×Obj)) (s:Shared) (σ:St) (H:Hp) (Q:VK),Inv X pins σ H s->t σ H Q->wpAny (model X.prog X.w) X.A (eval e X.env) (EP X pins σ Q) X.xe s
def PT(X:Cx)(e:Expr)(t:TT):Prop:=
 ∀(pins:List (Addr×Obj)) (s:Shared) (σ:St) (H:Hp) (Q:Bool->Hp->Prop),Inv X pins σ H s->t σ H Q->wpAny (model X.prog X.w) X.A (isTrue e X.env (eval e X.env)) (TP X pins σ Q) X.xe s
def PW(X:Cx)(e:Expr)(t:TT):Prop:=
 ∀(whole:Sem Value) (pins:List (Addr×Obj)) (s:Shared) (σ:St) (H:Hp) (Q:Bool->Hp->Prop),Inv X pins σ H s->t σ H Q->wpAny (model X.prog X.w) X.A (isTrue e X.env whole) (TP X pins σ Q) X.xe s
theorem PW.pt{X:Cx}{e:Expr}{t:TT}(h:PW X e t):PT X e t:=h _
def PA(X:Cx)(es:List Expr)(t:TA):Prop:=
 ∀(pos:Pos) (pins:List (Addr×Obj)) (s:Shared) (σ:St) (H:Hp) (Q:List V->Hp->Prop),Inv X pins σ H s->t σ H Q->wpAny (model X.prog X.w) X.A (spliced (backTo pos (starEach es X.env))) (AP X pins σ Q) X.xe s
def PS(X:Cx)(st:Stmt)(t:TS):Prop:=
 ∀(pins:List (Addr×Obj)) (s:Shared) (σ:St) (H:Hp) (D:Ends),Inv X pins σ H s->t D σ H->wpAny (model X.prog X.w) X.A (exec st X.env) (SP X pins D) X.xe s
def PSs(X:Cx)(st:List Stmt)(t:TS):Prop:=
 ∀(pins:List (Addr×Obj)) (s:Shared) (σ:St) (H:Hp) (D:Ends),Inv X pins σ H s->t D σ H->wpAny (model X.prog X.w) X.A (execs st X.env) (SP X pins D) X.xe s
theorem thn{α:Type}{t:Sem α}{Q Q':α->Shared->Prop}{M:Model}{A:Around}{E:Value->Shared->Prop}{s:Shared}(h:wpAny M A t Q E s)(hQ:∀a s,Q a s->Q' a s):wpAny M A t Q' E s:=wpAny_mono h hQ fun _ _ x=>x
open PySem PySem.Spec PyProof.Rows
section
variable{X:Cx}
theorem bin{a b:Expr}{ta tb:TE}(ha:PE X a ta)(hb:PE X b tb){pins:List (Addr×Obj)}{s:Shared}{σ:St}{H:Hp}{R:V->V->Hp->Prop}(I:Inv X pins σ H s)(h:ta σ H fun x H1=>tb σ H1 fun y H2=>R x y H2)
  {α:Type}{Q:α->Shared->Prop}{f:Value->Value->Sem α}
  (hf:∀v u s2 x y H2,Inv X pins σ H2 s2->RelV x v->RelV y u->R x y H2->wpAny (model X.prog X.w) X.A (f v u) Q X.xe s2) :
  wpAny (model X.prog X.w) X.A (eval a X.env) (fun v s₁=>wpAny (model X.prog X.w) X.A (eval b X.env) (fun u s₂=>wpAny (model X.prog X.w) X.A (f v u) Q X.xe s₂) X.xe s₁) X.xe s:=by
 refine thn (ha pins s σ H _ I h) fun v s1 ⟨x,H1,I1,r1,q1⟩=>?_
 refine thn (hb pins s1 σ H1 _ I1 q1) fun u s2 ⟨y,H2,I2,r2,q2⟩=>?_
 exact hf v u s2 x y H2 I2 r1 r2 q2
def tVar(i:Nat):TE:=fun σ H Q=>∃v,σ[i]?=some (some v)∧Q v H
def tC(v:V):TE:=fun _ H Q=>Q v H
theorem pe_var{i:Nat}{x:Str}{pos:Pos}(hN:X.N[i]?=some x)(hv:Vis X.env.scope x)(hd:(x==("__debug__":Str))=false:=by decide)(hcd:(x==("__classdict__":Str))=false:=by decide):PE X (.Name x pos) (tVar i):=by
 intro pins s σ H Q I h
 obtain⟨v,e,h⟩:=h
 obtain⟨m,hn,hl⟩:=I.loc
 obtain⟨u,r,l⟩:=hl i x v hN e hv
 have fin:EP X pins σ Q u s:=⟨v,H,I,r,h⟩
 rcases l with ⟨hk,hm⟩ | ⟨hk,c,hc,hcell⟩
 ·exact wpAny_Name (wpAny_loadName_local I.ok.kind hk hn hm fin) hd
 ·rcases hk with hk | hk
  ·exact wpAny_Name (wpAny_loadName_cell I.ok.kind hk hc hcell fin) hd
  ·exact wpAny_Name (wpAny_loadName_free I.ok.kind hk hc hcell fin hcd) hd
theorem pe_int{i j pos}:PE X (.Constant (.int i) j pos) (tC (.int i)):=fun _ _ _ H _ I h=>wpAny_Constant_int ⟨.int i,H,I.tok _,⟨_,rfl⟩,h⟩
theorem pe_bl{b j pos}:PE X (.Constant (.bool b) j pos) (tC (.bl b)):=fun _ _ _ H _ I h=>Constant_bool ⟨.bl b,H,I,rfl,h⟩
theorem pe_non{j pos}:PE X (.Constant .none j pos) (tC .non):=fun _ _ _ H _ I h=>Constant_none ⟨.non,H,I,rfl,h⟩
theorem pe_str{x j pos}:PE X (.Constant (.str x) j pos) (tC (.str x)):=fun _ _ _ H _ I h=>Calls.Constant_str ⟨.str x,H,I.tok _,⟨_,rfl⟩,h⟩
def Gl(X:Cx)(x:Str):Prop:=X.env.kindOf x=some .globalImplicit
theorem ld_glob{E:Value->Shared->Prop}{pins:List (Addr×Obj)}{s:Shared}{σ:St}{H:Hp}{x:Str}{u:Value}{pos:Pos}{Q:Value->Shared->Prop}(I:Inv X pins σ H s)(hg:Gl X x)(hm:X.mg x=some u)(h:Q u s)
  (hd:(x==("__debug__":Str))=false:=by decide):wpAny (model X.prog X.w) X.A (eval (.Name x pos) X.env) Q E s:=
 Calls.Name_function_global I.ok.kind hg (Calls.loadGlobal_global (by rw[I.ok.glob];exact I.mod.glob.keeps I.bk) hm h) hd
theorem ld_blt{E:Value->Shared->Prop}{pins:List (Addr×Obj)}{s:Shared}{σ:St}{H:Hp}{x:Str}{u:Value}{pos:Pos}{Q:Value->Shared->Prop}(I:Inv X pins σ H s)(hg:Gl X x)(hm:X.mg x=none)(hv:bootBuiltins x=some u)(h:Q u s)
  (hn:x≠"__name__":=by decide) (hd:(x==("__debug__":Str))=false:=by decide):wpAny (model X.prog X.w) X.A (eval (.Name x pos) X.env) Q E s:=by
 obtain⟨mb,h1,h2⟩:=I.mod.blt
 exact Calls.Name_function_global I.ok.kind hg (Calls.loadGlobal_builtin (by rw[I.ok.glob];exact I.mod.glob.keeps I.bk) hm (by rw[I.ok.blt];exact h1.keeps I.bk) ((h2 x hn).trans hv) h) hd
theorem pe_glob{x:Str}{v:V}{u:Value}{pos:Pos}(hg:Gl X x)(hm:X.mg x=some u)(r:RelV v u)(hd:(x==("__debug__":Str))=false:=by decide):PE X (.Name x pos) (tC v):=
 fun _ _ _ H _ I h=>ld_glob I hg hm ⟨v,H,I,r,h⟩ hd
theorem pe_bltn{x:Str}{v:V}{u:Value}{pos:Pos}(hg:Gl X x)(hm:X.mg x=none)(hv:bootBuiltins x=some u)(r:RelV v u)(hn:x≠"__name__":=by decide)(hd:(x==("__debug__":Str))=false:=by decide):PE X (.Name x pos) (tC v):=
 fun _ _ _ H _ I h=>ld_blt I hg hm hv ⟨v,H,I,r,h⟩ hn hd
variable{a b:Expr}{ta tb:TE}{pos:Pos}
variable{tA tB':TT}{rest:List Expr}
def tAnd(t u:TT):TT:=fun σ H Q=>t σ H fun c H1=>if c=true then u σ H1 Q else Q false H1
def tOr(t u:TT):TT:=fun σ H Q=>t σ H fun c H1=>if c=true then Q true H1 else u σ H1 Q
def tNot(t:TT):TT:=fun σ H Q=>t σ H fun c H1=>Q (!c) H1
theorem pw_and1(ha:PT X a tA):PW X (.BoolOp .And [a] pos) tA:=by
 intro wh pins s σ H Q I h
 refine isTrue_and (thn (ha pins s σ H Q I h) fun c s1 e=>?_)
 cases c with
 |true=>exact isTrue_and_nil e
 |false=>exact e
theorem pw_or1(ha:PT X a tA):PW X (.BoolOp .Or [a] pos) tA:=by
 intro wh pins s σ H Q I h
 refine isTrue_or (thn (ha pins s σ H Q I h) fun c s1 e=>?_)
 cases c with
 |false=>exact isTrue_or_nil e
 |true=>exact e
theorem pw_and(ha:PT X a tA)(hb:PW X (.BoolOp .And (b::rest) pos) tB'):PW X (.BoolOp .And (a::b::rest) pos) (tAnd tA tB'):=by
 intro wh pins s σ H Q I h
 refine isTrue_and (thn (ha pins s σ H _ I h) fun c s1 ⟨H1,I1,q1⟩=>?_)
 cases c with
 |true=>exact hb wh pins s1 σ H1 Q I1 q1
 |false=>exact⟨H1,I1,q1⟩
theorem pw_or(ha:PT X a tA)(hb:PW X (.BoolOp .Or (b::rest) pos) tB'):PW X (.BoolOp .Or (a::b::rest) pos) (tOr tA tB'):=by
 intro wh pins s σ H Q I h
 refine isTrue_or (thn (ha pins s σ H _ I h) fun c s1 ⟨H1,I1,q1⟩=>?_)
 cases c with
 |true=>exact⟨H1,I1,q1⟩
 |false=>exact hb wh pins s1 σ H1 Q I1 q1
theorem pt_not(ha:PT X a tA):PT X (.UnaryOp .Not a pos) (tNot tA):=by
 intro pins s σ H Q I h
 exact isTrue_not (ha pins s σ H (fun c H1=>Q (!c) H1) I h)
def tAndV(ta tb:TE):TE:=fun σ H Q=>ta σ H fun x H1=>∃c,x=.bl c∧if c=true then tb σ H1 Q else Q (.bl false) H1
def tNotV(ta:TE):TE:=fun σ H Q=>ta σ H fun x H1=>∃c,x=.bl c∧Q (.bl (!c)) H1
theorem pe_one{op}{t:TE}(h:PE X a t):PE X (.BoolOp op [a] pos) t:=fun pins s σ H Q I hw=>BoolOp_one (h pins s σ H Q I hw)
theorem pe_and(ha:PE X a ta)(hb:PE X (.BoolOp .And (b::rest) pos) tb):PE X (.BoolOp .And (a::b::rest) pos) (tAndV ta tb):=by
 intro pins s σ H Q I h
 refine BoolOp_and (thn (ha pins s σ H _ I h) fun v s1 ⟨x,H1,I1,r1,q1⟩=>?_)
 obtain⟨c,rfl,q1⟩:=q1
 cases r1
 refine wpAny_truthy_bool ?_
 cases c with
 |true=>exact hb pins s1 σ H1 Q I1 q1
 |false=>exact⟨.bl false,H1,I1,rfl,q1⟩
theorem pe_not(ha:PE X a ta):PE X (.UnaryOp .Not a pos) (tNotV ta):=by
 intro pins s σ H Q I h
 refine UnaryOp_ (thn (ha pins s σ H _ I h) fun v s1 ⟨x,H1,I1,r1,q1⟩=>?_)
 obtain⟨c,rfl,q1⟩:=q1
 cases r1
 exact not_of (wpAny_truthy_bool ⟨.bl (!c),H1,I1,rfl,q1⟩)
def tIf(t:TT)(ta tb:TE):TE:=fun σ H Q=>t σ H fun c H1=>if c=true then ta σ H1 Q else tb σ H1 Q
theorem pe_ifExp{c:Expr}(hc:PT X c tA)(ha:PE X a ta)(hb:PE X b tb):PE X (.IfExp c a b pos) (tIf tA ta tb):=by
 intro pins s σ H Q I h
 refine wpAny_IfExp (thn (hc pins s σ H _ I h) fun d s1 ⟨H1,I1,q1⟩=>?_)
 cases d with
 |true=>exact ha pins s1 σ H1 Q I1 q1
 |false=>exact hb pins s1 σ H1 Q I1 q1
end
open PySem PySem.Spec PyProof.Rows
def SqL(K:PySem.W.Frag)(H:Hp)(a:Addr)(xs:List V):Prop:=
 Rd H a (.lst xs) ∨
  ∃(o:Obj) (its:Array Value) (n:Nat),K.lookup a=some o∧o.cls=.type "list"∧o.dict=none∧o.data=.seq its n∧its.size≤sizeLine∧Vals xs its.toList
def SqT(K:PySem.W.Frag)(H:Hp)(a:Addr)(xs:List V):Prop:=
 Rd H a (.tup xs) ∨
  ∃(o:Obj) (its:Array Value) (n:Nat),K.lookup a=some o∧o.cls=.type "tuple"∧o.data=.seq its n∧its.size≤sizeLine∧Vals xs its.toList
def absV:Value->Option V
 |.none=>some .non
 |.bool b=>some (.bl b)
 |.int i _=>some (.int i)
 |.str x _=>some (.str x)
 |.bytes b _=>some (.byt b)
 |.float b _=>some (.flt b)
 |.ref a=>some (.ref a)
 |.type n=>some (.ty n)
 |_=>none
theorem RelV.abs{x:V}{u:Value}(r:RelV x u):absV u=some x:=by
 cases x with
 |non=>cases r;rfl
 |bl _=>cases r;rfl
 |int _=>obtain⟨t,rfl⟩:=r;rfl
 |str _=>obtain⟨t,rfl⟩:=r;rfl
 |byt _=>obtain⟨t,rfl⟩:=r;rfl
 |flt _=>obtain⟨t,rfl⟩:=r;rfl
 |ref _=>cases r;rfl
 |ty _=>cases r;rfl
theorem RelV.inj{x y:V}{u:Value}(r:RelV x u)(q:RelV y u):x=y:=Option.some.inj (r.abs.symm.trans q.abs)
theorem Vals.inj:∀{xs ys:List V}{us:List Value},Vals xs us->Vals ys us->xs=ys
 |_,_,_,.nil,.nil=>rfl
 |_,_,_,.cons r t,.cons r' t'=>by rw[r.inj r',Vals.inj t t']
section
variable{X:Cx}{pins:List (Addr×Obj)}{σ:St}{H:Hp}{s:Shared}{a:Addr}{xs ys:List V}
theorem SqL.of{K:PySem.W.Frag}(h:H a=some (.lst xs)):SqL K H a xs:=.inl (.inl h)
theorem SqT.of{K:PySem.W.Frag}(h:H a=some (.tup xs)):SqT K H a xs:=.inl (.inl h)
theorem Inv.list(I:Inv X pins σ H s)(h:SqL X.K H a xs):∃its:List Value,Vals xs its∧PlainL s.heap a its.toArray∧xs.length≤sizeLine:=by
 rcases h with h | ⟨o,its,n,hk,hc,hd,hs,hz,r⟩
 ·obtain⟨z,its,n,r,e⟩:=h.ok I.hok
  exact⟨its,r,⟨_,n,e,rfl,rfl,rfl⟩,z⟩
 ·refine⟨its.toList,r,⟨o,n,I.kIn a o hk,hc,hd,by simpa using hs⟩,?_⟩
  have e:=r.length
  simp only[Array.length_toList] at e
  omega
theorem Inv.tuple(I:Inv X pins σ H s)(h:SqT X.K H a xs):∃its:List Value,Vals xs its∧IsTup s.heap a its.toArray∧xs.length≤sizeLine:=by
 rcases h with h | ⟨o,its,n,hk,hc,hs,hz,r⟩
 ·obtain⟨z,its,r,p⟩:=h.ok I.hok
  exact⟨its,r,p,z⟩
 ·refine⟨its.toList,r,⟨o,I.kIn a o hk,hc,n,by simpa using hs⟩,?_⟩
  have e:=r.length
  simp only[Array.length_toList] at e
  omega
theorem Inv.list_inj(I:Inv X pins σ H s)(h:SqL X.K H a xs)(h':SqL X.K H a ys):xs=ys:=by
 obtain⟨its,r,⟨o,n,e,_,_,d⟩,_⟩:=I.list h
 obtain⟨its',r',⟨o',n',e',_,_,d'⟩,_⟩:=I.list h'
 rw[e] at e';cases e'
 rw[d] at d'
 injection d' with d1 _
 have:its=its':=by simpa using congrArg Array.toList d1
 subst this
 exact r.inj r'
theorem Inv.tuple_inj(I:Inv X pins σ H s)(h:SqT X.K H a xs)(h':SqT X.K H a ys):xs=ys:=by
 obtain⟨its,r,⟨o,e,_,n,d⟩,_⟩:=I.tuple h
 obtain⟨its',r',⟨o',e',_,n',d'⟩,_⟩:=I.tuple h'
 rw[e] at e';cases e'
 rw[d] at d'
 injection d' with d1 _
 have:its=its':=by simpa using congrArg Array.toList d1
 subst this
 exact r.inj r'
end
section
variable{X:Cx}{st:Stmt}{rest:List Stmt}{t u:TS}{e:Expr}{te:TE}{pos:Pos}
def tNext:TS:=fun D σ H=>D.nx σ H
def tSeq(t u:TS):TS:=fun D σ H=>t { D with nx:=u D } σ H
theorem pss_nil:PSs X [] tNext:=fun _ _ σ H _ I h=>wpAny_execs_nil ⟨σ,H,I,h⟩
theorem pss_cons (h1:PS X st t) (h2:PSs X rest u):PSs X (st::rest) (tSeq t u):=by
 intro pins s σ H D I h
 refine wpAny_execs_cons (thn (h1 pins s σ H { D with nx:=u D } I h) fun f s1 q=>?_)
 cases f with
 |next=>
   obtain⟨σ',H',I',q⟩:=q
   exact h2 pins s1 σ' H' D I' q
 |ret v=>exact q
 |brk=>exact q
 |cont=>exact q
theorem pss_one(h1:PS X st t):PSs X [st] t:=by
 intro pins s σ H D I h
 refine wpAny_execs_cons (thn (h1 pins s σ H D I h) fun f s1 q=>?_)
 cases f with
 |next=>exact wpAny_execs_nil q
 |ret v=>exact q
 |brk=>exact q
 |cont=>exact q
theorem Inv.quiet{pins:List (Addr×Obj)}{σ:St}{H:Hp}{s:Shared}(I:Inv X pins σ H s):interactive X.env=false:=by simp[interactive,I.ok.kind]
def tDrop(te:TE):TS:=fun D σ H=>te σ H fun _ H1=>D.nx σ H1
theorem ps_expr(he:PE X e te)(hs:swapsWith e none pos.line X.env=pure false:=by rfl):PS X (.Expr e pos) (tDrop te):=by
 intro pins s σ H D I h
 exact wpAny_Expr_any (thn (he pins s σ H _ I h) fun v s1 ⟨x,H1,I1,r1,q1⟩=>⟨σ,H1,I1,q1⟩) I.quiet hs
def tRet(te:TE):TS:=fun D σ H=>te σ H D.rt
theorem ps_ret(he:PE X e te):PS X (.Return (some e) pos) (tRet te):=by
 intro pins s σ H D I h
 exact wpAny_Return_some (thn (he pins s σ H _ I h) fun v s1 ⟨x,H1,I1,r1,q1⟩=>⟨x,σ,H1,I1,r1,q1⟩)
def tIfS(c:TT)(t u:TS):TS:=fun D σ H=>c σ H fun b H1=>if b=true then t D σ H1 else u D σ H1
theorem ps_if{c:Expr}{a b:List Stmt}{tc:TT}(hc:PT X c tc)(ha:PSs X a t)(hb:PSs X b u):PS X (.If c a b pos) (tIfS tc t u):=by
 intro pins s σ H D I h
 refine wpAny_If (thn (hc pins s σ H _ I h) fun d s1 ⟨H1,I1,q1⟩=>?_)
 cases d with
 |true=>exact ha pins s1 σ H1 D I1 q1
 |false=>exact hb pins s1 σ H1 D I1 q1
end
abbrev TG:=V->St->Hp->(St->Hp->Prop)->Prop
abbrev TGs:=List V->St->Hp->(St->Hp->Prop)->Prop
def PG (X:Cx) (target:Expr) (t:TG):Prop:=
 ∀(pins:List (Addr×Obj)) (s:Shared) (σ:St) (H:Hp) (v:V) (u:Value) (Q:St->Hp->Prop),Inv X pins σ H s->RelV v u->t v σ H Q->
   wpAny (model X.prog X.w) X.A (assign target X.env u) (fun _ s'=>∃σ' H',Inv X pins σ' H' s'∧Q σ' H') X.xe s
def PGs (X:Cx) (ts:List Expr) (t:TGs):Prop:=
 ∀(pins:List (Addr×Obj)) (s:Shared) (σ:St) (H:Hp) (vs:List V) (us:List Value) (Q:St->Hp->Prop),Inv X pins σ H s->Vals vs us->t vs σ H Q->
   wpAny (model X.prog X.w) X.A (assignInOrder ((assignEach ts X.env).map (·.2)) us) (fun _ s'=>∃σ' H',Inv X pins σ' H' s'∧Q σ' H') X.xe s
abbrev TSet:=V->V->V->Hp->(Hp->Prop)->Prop
def PSet (X:Cx) (t:TSet):Prop:=
 ∀(pins:List (Addr×Obj)) (s:Shared) (σ:St) (H:Hp) (o i v:V) (ov iv u:Value) (Q:Hp->Prop),Inv X pins σ H s->RelV o ov->RelV i iv->RelV v u->t o i v H Q->
   wpAny (model X.prog X.w) X.A (setItem ov iv u) (fun _ s'=>∃H',Inv X pins σ H' s'∧Q H') X.xe s
section
variable{X:Cx}{pos:Pos}
def gName(i:Nat):TG:=fun v σ H Q=>Q (σ.set i (some v)) H
theorem pg_name{i:Nat}{x:Str}(hN:X.N.Nodup)(hi:X.N[i]?=some x)(hx:Loc X.env.scope x)(hf:X.fn x=true∨X.env.scope.names.lookup x=some .local:=by first | exact .inl rfl | exact .inr rfl | assumption):PG X (.Name x pos) (gName i):=by
 intro pins s σ H v u Q I r h
 exact wpAny_assign_Name (store_ok I hN hi hx r (fun s' I'=>⟨_,H,I',h⟩) hf)
def gNil:TGs:=fun vs σ H Q=>vs=[]∧Q σ H
def gCons(t:TG)(u:TGs):TGs:=fun vs σ H Q=>∃v r,vs=v::r∧t v σ H fun σ' H'=>u r σ' H' Q
theorem pgs_nil:PGs X [] gNil:=by
 intro pins s σ H vs us Q I r h
 obtain⟨e,h⟩:=h
 subst e
 cases r
 exact assignInOrder_nil ⟨σ,H,I,h⟩
theorem pgs_cons {e:Expr}{es:List Expr}{t:TG}{u:TGs} (h1:PG X e t) (h2:PGs X es u)
  (hs:(assignEach (e::es) X.env).map (·.2)=assign e X.env::(assignEach es X.env).map (·.2):=by rfl):PGs X (e::es) (gCons t u):=by
 intro pins s σ H vs us Q I r h
 obtain⟨v,vr,e1,h⟩:=h
 subst e1
 cases r with
 |cons r rr=>
   rw[hs]
   refine assignInOrder_cons (thn (h1 pins s σ H _ _ _ I r h) fun _ s1 ⟨σ1,H1,I1,q1⟩=>?_)
   exact h2 pins s1 σ1 H1 _ _ Q I1 rr q1
def gTup(K:PySem.W.Frag)(n:Nat)(t:TGs):TG:=fun v σ H Q=>∃a xs,v=.ref a∧SqT K H a xs∧xs.length=n∧t xs σ H Q
theorem pg_tup{es:List Expr}{k:Nat}{t:TGs}{n:Nat}(hc:X.calm=true)(h:PGs X es t)
  (hn:(assignEach es X.env).length=n:=by rfl) (hst:(assignEach es X.env).findIdx? (·.1)=none:=by rfl):PG X (.Tuple es k pos) (gTup X.K n t):=by
 intro pins s σ H v u Q I r hw
 obtain⟨a,xs,e1,hq,hl,hw⟩:=hw
 subst e1
 cases r
 obtain⟨its,rv,ht,hz⟩:=I.tuple hq
 refine assign_Tuple_tuple (I.ok.hd hc) ht (by simp[hn,←hl,rv.length]) hst fun h' hx=>?_
 have I1:Inv X pins σ H { s with heap:=h' }:=I.kept (t':=s.toks) fun b o e=>hx b o (Nat.ne_of_lt (Heap.lt_size e)) e
 exact h pins _ σ H xs _ Q I1 (by simpa using rv) hw
def gSub(to ti:TE)(t:TSet):TG:=fun v σ H Q=>to σ H fun o H1=>ti σ H1 fun i H2=>t o i v H2 fun H3=>Q σ H3
theorem pg_sub {o i:Expr}{to ti:TE}{t:TSet} (ho:PE X o to) (hi:PE X i ti) (hs:PSet X t)
  (ha:∀v,assign (.Subscript o i pos) X.env v=(do
    let ov ←holding [v] (eval o X.env)
    let iv ←holding [v,ov] (eval i X.env)
    standAt pos
    holding [v,ov,iv] (setItem ov iv v)
    release [v,ov,iv] []):=by intro _;rfl):PG X (.Subscript o i pos) (gSub to ti t):=by
 intro pins s σ H v u Q I r h
 rw[ha]
 refine wpAny_bind (wpAny_holding (thn (ho pins s σ H _ I h) fun ov s1 ⟨x,H1,I1,r1,q1⟩=>?_))
 refine wpAny_bind (wpAny_holding (thn (hi pins s1 σ H1 _ I1 q1) fun iv s2 ⟨y,H2,I2,r2,q2⟩=>?_))
 refine wpAny_bind (wpAny_standAt (wpAny_bind (wpAny_holding (thn (hs pins s2 σ H2 x y v ov iv u _ I2 r1 r2 r q2) fun _ s3 ⟨H3,I3,q3⟩=>?_))))
 exact wpAny_release ⟨σ,H3,I3,q3⟩
def tAsg(te:TE)(g:TG):TS:=fun D σ H=>te σ H fun x H1=>g x σ H1 D.nx
theorem ps_asg{tg e:Expr}{te:TE}{g:TG}(he:PE X e te)(hg:PG X tg g)(hs:swapsWithSole [tg] e pos.line X.env=pure false:=by rfl)(hw:swappedStores [tg] e X.env=pure none:=by rfl)
  (h1:(assignEach [tg] X.env).map (·.2)=[assign tg X.env]:=by rfl):PS X (.Assign [tg] e pos) (tAsg te g):=by
 intro pins s σ H D I h
 refine wpAny_Assign_stores (thn (he pins s σ H _ I h) fun v s1 ⟨x,H1,I1,r1,q1⟩=>?_) hs hw
 rw[h1]
 exact thn (hg pins s1 σ H1 x v _ I1 r1 q1) fun _ s2 q=>q
theorem ps_set{i:Nat}{x:Str}{e:Expr}{te:TE}{pos':Pos}(hN:X.N.Nodup)(hi:X.N[i]?=some x)(hx:Loc X.env.scope x)(he:PE X e te)(hs:swapsWith e (some (.Name x pos')) pos.line X.env=pure false:=by rfl)(hf:X.fn x=true∨X.env.scope.names.lookup x=some .local:=by first | exact .inl rfl | exact .inr rfl | assumption) :
  PS X (.Assign [.Name x pos'] e pos) (tAsg te (gName i)):=by
 intro pins s σ H D I h
 refine wpAny_Assign_Name (thn (he pins s σ H _ I h) fun v s1 ⟨y,H1,I1,r1,q1⟩=>?_) hs
 exact store_ok I1 hN hi hx r1 (fun s2 I2=>⟨_,H1,I2,q1⟩) hf
def tPar(i j:Nat)(ta:TA):TS:=fun D σ H=>ta σ H fun vs H1=>∃v w,vs=[v,w]∧D.nx ((σ.set i (some v)).set j (some w)) H1
theorem ps_par {i j:Nat}{x y:Str}{a b:Expr}{ta:TA}{px py pt:Pos}{kt k2 pt2} (hc:X.calm=true) (hN:X.N.Nodup) (hi:X.N[i]?=some x) (hj:X.N[j]?=some y) (hij:i≠j)
  (hx:X.env.scope.names.lookup x=some .local) (hy:X.env.scope.names.lookup y=some .local) (ha:PA X [a,b] ta)
  (hw:swappedStores [.Tuple [.Name x px,.Name y py] kt pt] (.Tuple [a,b] k2 pt2) X.env=pure (some [x,y]))
  (hs:swapsWithSole [.Tuple [.Name x px,.Name y py] kt pt] (.Tuple [a,b] k2 pt2) pos.line X.env=pure false:=by rfl) :
  PS X (.Assign [.Tuple [.Name x px,.Name y py] kt pt] (.Tuple [a,b] k2 pt2) pos) (tPar i j ta):=by
 intro pins s σ H D I h
 rw[exec_Assign_arm]
 refine wpAny_bind (wpAny_standAt ?_)
 rw[hs]
 refine wpAny_bind (wpAny_pure ?_)
 rw[if_neg (by decide)]
 refine wpAny_bind (Tuple_ (thn (ha _ pins s σ H _ I h) fun us s1 ⟨vs,H1,I1,r1,q1⟩=>?_))
 obtain⟨v,w,e1,q1⟩:=q1
 subst e1
 obtain ⟨u1,u2,rfl,rv,rw'⟩:∃ u1 u2,us=[u1,u2]∧RelV v u1∧RelV w u2:=by
  cases r1 with
  | cons p q=>
    cases q with
    |cons p' q'=>
      cases q'
      exact⟨_,_,rfl,p,p'⟩
 refine wpAny_newObj_type ?_ (by show 2≤sizeLine;decide)
 have I2:Inv X pins σ H1 { s1 with heap:=s1.heap.push { cls:=.type "tuple",data:=.seq [u1,u2].toArray } }:=I1.kept (t':=s1.toks) fun b o e=>Heap.get?_push_of_some _ e
 rw[hw]
 refine wpAny_bind (wpAny_pure ?_)
 show wpAny (model X.prog X.w) X.A (do rule "assign.swapped-stores";let items ←unpackItems (.ref s1.heap.objs.size) 2 none;assignInOrder [fun v=>bindName X.env y v,fun v=>bindName X.env x v] items.reverse;pure Flow.next) _ _ _
 refine wpAny_bind (wpAny_rule (wpAny_bind (unpackItems_tuple (items:=#[u1,u2]) (I.ok.hd hc) (IsTup.new s1.heap _) fun h' hx'=>?_)))
 have I3:=I2.kept (h':=h') (t':=s1.toks) fun b o e=>hx' b o (Nat.ne_of_lt (Heap.lt_size e)) e
 show wpAny _ _ (assignInOrder [fun v=>bindName X.env y v,fun v=>bindName X.env x v] [u2,u1]>>=fun _=>pure Flow.next) _ _ _
 refine wpAny_bind (assignInOrder_cons (wpAny_bindName (store_ok I3 hN hj (.inl hy) rw' (fun s2 I4=>?_) (.inr hy))))
 refine assignInOrder_cons (wpAny_bindName (store_ok I4 hN hi (.inl hx) rv (fun s3 I5=>assignInOrder_nil (wpAny_pure ?_)) (.inr hx)))
 rw[List.set_comm _ _ (Ne.symm hij)] at I5
 exact⟨_,H1,I5,q1⟩
end
section
variable{X:Cx}{pos:Pos}
def tWhile(c:TT)(tb:TS):TS:=fun D σ H=>∃W:Nat->St->Hp->Prop,(∃m,W m σ H)∧∀m σ H,W m σ H->
 c σ H fun b H1=>if b=true then ∃N:St->Hp->Prop,(∀σ' H',N σ' H'->∃m',m'<m∧W m' σ' H')∧tb { D with nx:=N,ct:=N,bk:=D.nx } σ H1 else D.nx σ H1
theorem ps_while {c:Expr}{body:List Stmt}{tc:TT}{tb:TS} (hp:PassesOwn (model X.prog X.w) X.A X.env X.xe) (hc:PT X c tc) (hb:PSs X body tb):PS X (.While c body [] pos) (tWhile tc tb):=by
 intro pins s σ H D I h
 obtain⟨W,⟨m0,w0⟩,turn⟩:=h
 refine wpAny_While (codeAny_whileLoop (fun n s'=>∃σ' H',Inv X pins σ' H' s'∧W n σ' H') ?_ m0 ⟨σ,H,I,w0⟩)
 rintro n s1 ⟨σ1,H1,I1,w1⟩
 refine wpAny_passesOwn hp (thn (hc pins s1 σ1 H1 _ I1 (turn n σ1 H1 w1)) fun b s2 ⟨H2,I2,q2⟩=>?_)
 cases b with
 | true=>
   obtain⟨N,hN,q2⟩:=q2
   rw[if_pos rfl]
   refine wpAny_passesOwn hp (thn (hb pins s2 σ1 H2 _ I2 q2) fun f s3 q3=>?_)
   cases f with
   |next=>
     obtain⟨σ3,H3,I3,n3⟩:=q3
     obtain⟨m',hm,w3⟩:=hN σ3 H3 n3
     exact⟨m',hm,σ3,H3,I3,w3⟩
   |cont=>
     obtain⟨σ3,H3,I3,n3⟩:=q3
     obtain⟨m',hm,w3⟩:=hN σ3 H3 n3
     exact⟨m',hm,σ3,H3,I3,w3⟩
   |brk=>exact q3
   |ret v=>exact q3
 |false=>
   rw[if_neg Bool.false_ne_true]
   exact wpAny_execs_nil ⟨σ1,H2,I2,q2⟩
end
structure It where
 go:Nat->Hp->Prop
 yld:Nat->Hp->V->Hp->Prop
 stop:Nat->Hp->Prop
def FpOk(X:Cx)(pins:List (Addr×Obj))(H:Hp)(b:Addr):Prop:=
 H b=none∧b≠X.env.locals∧b∉X.fs∧(b∈X.ex∨X.s₀.heap.objs.size≤b)∧(∀x c,X.env.cells.lookup x=some c->c≠b)∧∀p∈X.pn++pins,p.1≠b
theorem Inv.fpOk{X:Cx}{pins:List (Addr×Obj)}{σ:St}{H H':Hp}{s:Shared}{b:Addr}(I:Inv X pins σ H s)(hb:s.heap.objs.size≤b)(hn:H' b=none):FpOk X pins H' b:=by
 refine⟨hn,Nat.ne_of_gt (Nat.lt_of_lt_of_le I.lt hb),I.nofs hb,.inr (Nat.le_trans I.sz hb),fun x c e z=>?_,fun p hp z=>?_⟩
 ·obtain⟨v,q⟩:=I.cell x c e
  exact absurd (Nat.lt_of_lt_of_le q.lt (by rw[z];exact hb)) (Nat.lt_irrefl _)
 ·exact absurd (Nat.lt_of_lt_of_le (Heap.lt_size (I.pin p hp).1) (by rw[z];exact hb)) (Nat.lt_irrefl _)
structure Turn (P:Program) (w:World) (K:PySem.W.Frag) (tg:Expr) (J:It) (fp:List Addr) (it:Addr) (tn:Nat->Heap->Prop):Prop where
 mem:it∈fp
 obj:∀i h,tn i h->∀b∈fp,∃o,h.get? b=some o∧∀v,o.data≠.cell v
 keep:∀i h h',tn i h->(∀b∈fp,∀o,h.get? b=some o->h'.get? b=some o)->tn i h'
 item:∀(X:Cx),X.prog=P->X.w=w->X.K=K->X.calm=true->∀(i:Nat) (pins:List (Addr×Obj)) (s:Shared) (σ:St) (H:Hp) (E:Value->Shared->Prop),Inv X pins σ H s->(∀b∈fp,FpOk X pins H b)->tn i s.heap->J.go i H->
  wpAny (model P w) X.A (pyNext (.ref it)) (fun r s1=>∃u,r=some u ∧
   wpAny (model P w) X.A (letOwnedTupleGo tg (.ref it) u) (fun _ s2=>∃x H',Inv X pins σ H' s2∧RelV x u∧J.yld i H x H'∧tn (i+1) s2.heap∧∀b∈fp,H' b=none) E s1) E s
 done:∀(X:Cx),X.prog=P->X.w=w->X.K=K->X.calm=true->∀(i:Nat) (pins:List (Addr×Obj)) (s:Shared) (σ:St) (H:Hp) (E:Value->Shared->Prop),Inv X pins σ H s->(∀b∈fp,FpOk X pins H b)->tn i s.heap->J.stop i H->
  wpAny (model P w) X.A (pyNext (.ref it)) (fun r s1=>r=none∧Inv X pins σ H s1) E s
 self:∀(A:Around) (i:Nat) (s:Shared) (Q:Value->Shared->Prop) (E:Value->Shared->Prop),tn i s.heap->Q (.ref it) s->wpAny (model P w) A (pyIter (.ref it)) Q E s
abbrev TI:=St->Hp->(It->Hp->Prop)->Prop
def PIE(X:Cx)(pins:List (Addr×Obj))(σ:St)(tg:Expr)(R:It->Hp->Prop)(itv:Value)(s2:Shared):Prop:=
 ∃(it:Addr) (fp:List Addr) (tn:Nat->Heap->Prop) (J:It) (H':Hp),itv=.ref it∧Inv X pins σ H' s2∧Turn X.prog X.w X.K tg J fp it tn∧tn 0 s2.heap∧(∀b∈fp,FpOk X pins H' b)∧R J H'
def PI (X:Cx) (tg iter:Expr) (wi:TI):Prop:=
 ∀(pins:List (Addr×Obj)) (s:Shared) (σ:St) (H:Hp) (R:It->Hp->Prop),Inv X pins σ H s->wi σ H R->
   wpAny (model X.prog X.w) X.A (eval iter X.env) (fun v s1=>wpAny (model X.prog X.w) X.A (pyIter v) (PIE X pins σ tg R) X.xe s1) X.xe s
theorem go_of {M:Model}{A:Around}{E:Value->Shared->Prop}{s:Shared}{tg:Expr}{it:Addr}{u:Value}{o:Obj}{n:String}{vs:Array Value}{Q:Unit->Shared->Prop} (ho:s.heap.get? it=some o) (hc:o.cls=.type n) (hd:o.data=.fields vs)
  (hn:["enumerate", "zip", "dict_itemiterator", "dict_reverseitemiterator", "odict_iterator", "itertools.zip_longest", "itertools.pairwise"].contains n=false) (hQ:Q () s):wpAny M A (letOwnedTupleGo tg (.ref it) u) Q E s:=by
 unfold letOwnedTupleGo
 cases tg<;>first
  |exact wpAny_pure hQ
  | (cases u<;>first
      |exact wpAny_pure hQ
      | (refine wpAny_bind (wpAny_load ho ?_)
         rw[hc,hd]
         show wpAny M A (if (["enumerate", "zip", "dict_itemiterator", "dict_reverseitemiterator", "odict_iterator", "itertools.zip_longest", "itertools.pairwise"].contains n&&vs[0]?==some (rawInt _))=true then _ else _) Q E s
         rw[if_neg (by intro h;rw[hn,Bool.false_and] at h;cases h)]
         exact wpAny_pure hQ))
def Itl(K:PySem.W.Frag)(a:Addr):It:=
 ⟨fun i H=>∃xs x,SqL K H a xs∧xs[i]?=some x,fun i H x H'=>H'=H∧∀xs,SqL K H a xs->xs[i]?=some x,fun i H=>∃xs,SqL K H a xs∧xs.length≤i⟩
def Itt(K:PySem.W.Frag)(a:Addr):It:=
 ⟨fun i H=>∃xs x,SqT K H a xs∧xs[i]?=some x,fun i H x H'=>H'=H∧∀xs,SqT K H a xs->xs[i]?=some x,fun i H=>∃xs,SqT K H a xs∧xs.length≤i⟩
def Itr(lo:Int)(n:Nat):It:=⟨fun i _=>i<n,fun i H x H'=>H'=H∧x=.int (lo+i),fun i _=>n≤i⟩
theorem turn_list{P:Program}{w:World}{K:PySem.W.Frag}{tg:Expr}(a it:Addr):Turn P w K tg (Itl K a) [it] it (fun i h=>h.IsListIter it a i) where
 mem:=by simp
 obj:=fun i h st b hb=>by
  have e:b=it:=by simpa using hb
  subst e
  obtain⟨o,e,c,d⟩:=st
  exact⟨o,e,fun v z=>by rw[d] at z;cases z⟩
 keep:=fun i h h' st k=>st.at fun o e=>k it (by simp) o e
 item:=by
  intro X hP hw hK hc i pins s σ H E I hf st hg
  subst hP hw hK
  obtain⟨xs,x,hq,hx⟩:=hg
  obtain⟨its,rv,p,hz⟩:=I.list hq
  obtain⟨u,hu,ru⟩:=rv.get hx
  obtain⟨f0,f1,f2,f3,f4,f5⟩:=hf it (by simp)
  refine wpAny_pyNext_list_item st p.isList (x:=u) (by simpa using hu) fun h' st' sb=>?_
  have I1:Inv X pins σ H { s with heap:=h' }:=I.turned (t':=s.toks) (fun b o hb e=>(sb.2 b hb).trans e) f0 f1 f3 f4 f5
  obtain⟨o,e,c,d⟩:=id st'
  exact⟨u,rfl,go_of (s:={ s with heap:=h' }) e c d (by decide) ⟨x,H,I1,ru,⟨rfl,fun ys hy=>by rw[I.list_inj hy hq];exact hx⟩,st',fun b hb=>(hf b hb).1⟩⟩
 done:=by
  intro X hP hw hK hc i pins s σ H E I hf st hg
  subst hP hw hK
  obtain⟨xs,hq,hx⟩:=hg
  obtain⟨its,rv,p,hz⟩:=I.list hq
  obtain⟨f0,f1,f2,f3,f4,f5⟩:=hf it (by simp)
  have hl:=rv.length
  exact wpAny_pyNext_list_end (I.ok.hd hc) st p.isList (by simp;omega) fun h' eb=>⟨rfl,I.turned (t':=s.toks) (fun b o hb e=>eb b o hb e) f0 f1 f3 f4 f5⟩
 self:=fun _ _ _ _ _ st h=>wpAny_pyIter_listiter st h
theorem turn_tuple{P:Program}{w:World}{K:PySem.W.Frag}{tg:Expr}(a it:Addr):Turn P w K tg (Itt K a) [it] it (fun i h=>h.IsTupleIter it a i) where
 mem:=by simp
 obj:=fun i h st b hb=>by
  have e:b=it:=by simpa using hb
  subst e
  obtain⟨o,e,c,d⟩:=st
  exact⟨o,e,fun v z=>by rw[d] at z;cases z⟩
 keep:=fun i h h' st k=>st.at fun o e=>k it (by simp) o e
 item:=by
  intro X hP hw hK hc i pins s σ H E I hf st hg
  subst hP hw hK
  obtain⟨xs,x,hq,hx⟩:=hg
  obtain⟨its,rv,p,hz⟩:=I.tuple hq
  obtain⟨u,hu,ru⟩:=rv.get hx
  obtain⟨f0,f1,f2,f3,f4,f5⟩:=hf it (by simp)
  refine wpAny_pyNext_tuple_item st (show s.heap.IsTuple a its.toArray from p) (x:=u) (by simpa using hu) fun h' st' sb=>?_
  have I1:Inv X pins σ H { s with heap:=h' }:=I.turned (t':=s.toks) (fun b o hb e=>(sb.2 b hb).trans e) f0 f1 f3 f4 f5
  obtain⟨o,e,c,d⟩:=id st'
  exact⟨u,rfl,go_of (s:={ s with heap:=h' }) e c d (by decide) ⟨x,H,I1,ru,⟨rfl,fun ys hy=>by rw[I.tuple_inj hy hq];exact hx⟩,st',fun b hb=>(hf b hb).1⟩⟩
 done:=by
  intro X hP hw hK hc i pins s σ H E I hf st hg
  subst hP hw hK
  obtain⟨xs,hq,hx⟩:=hg
  obtain⟨its,rv,p,hz⟩:=I.tuple hq
  obtain⟨f0,f1,f2,f3,f4,f5⟩:=hf it (by simp)
  have hl:=rv.length
  exact wpAny_pyNext_tuple_end (I.ok.hd hc) st (show s.heap.IsTuple a its.toArray from p) (by simp;omega) fun h' eb=>⟨rfl,I.turned (t':=s.toks) (fun b o hb e=>eb b o hb e) f0 f1 f3 f4 f5⟩
 self:=fun _ _ _ _ _ st h=>wpAny_pyIter_tupleiter st h
theorem turn_range {P:Program}{w:World}{K:PySem.W.Frag}{tg:Expr} (it:Addr) (lo:Int) (n:Nat):Turn P w K tg (Itr lo n) [it] it (fun i h=>IsRangeIter h it (lo + (i:Nat) * 1) ((n:Int) - (i:Nat)) 1) where
 mem:=by simp
 obj:=fun i h st b hb=>by
  have e:b=it:=by simpa using hb
  subst e
  exact⟨_,st,fun v z=>by
   have z':Data.fields _=Data.cell v:=z
   cases z'⟩
 keep:=fun i h h' st k=>k it (by simp) _ st
 item:=by
  intro X hP hw hK hc i pins s σ H E I hf st hg
  subst hP hw hK
  obtain⟨f0,f1,f2,f3,f4,f5⟩:=hf it (by simp)
  have W:=Walks.range (prog:=X.prog) (w:=X.w) (I.ok.hd hc) it lo 1 n
  refine W.item i s _ _ hg st fun v h' tk hv st' kk=>?_
  obtain⟨t,rfl⟩:=hv
  have I1:Inv X pins σ H { s with heap:=h',toks:=tk }:=I.turned (fun b o hb e=>kk b o (by simpa using hb) e) f0 f1 f3 f4 f5
  refine⟨_,rfl,go_of (s:={ s with heap:=h',toks:=tk }) (n := "range_iterator") st' rfl rfl (by decide) ⟨.int (lo+i),H,I1,⟨t,?_⟩,⟨rfl,rfl⟩,st',fun b hb=>(hf b hb).1⟩⟩
  rw[Int.mul_one]
 done:=by
  intro X hP hw hK hc i pins s σ H E I hf st hg
  subst hP hw hK
  obtain⟨f0,f1,f2,f3,f4,f5⟩:=hf it (by simp)
  exact wpAny_pyNext_range_end (I.ok.hd hc) st (by have:n≤i:=hg;omega) fun h' eb=>⟨rfl,I.turned (t':=s.toks) (fun b o hb e=>eb b o hb e) f0 f1 f3 f4 f5⟩
 self:=fun _ _ _ _ _ st h=>wpAny_pyIter_rangeiter st h
open PySem PySem.Spec PyProof.Rows
section
variable{X:Cx}{tg:Expr}
def iList(K:PySem.W.Frag)(tl:TE):TI:=fun σ H R=>tl σ H fun x H1=>∃a,x=.ref a∧(∃xs,SqL K H1 a xs)∧R (Itl K a) H1
def iTup(K:PySem.W.Frag)(tl:TE):TI:=fun σ H R=>tl σ H fun x H1=>∃a,x=.ref a∧(∃xs,SqT K H1 a xs)∧R (Itt K a) H1
theorem pi_list{l:Expr}{tl:TE}(hl:PE X l tl):PI X tg l (iList X.K tl):=by
 intro pins s σ H R I h
 refine thn (hl pins s σ H _ I h) fun v s1 ⟨x,H1,I1,r1,q1⟩=>?_
 obtain⟨a,e,⟨xs,hq⟩,q⟩:=q1
 subst e
 cases r1
 obtain⟨its,rv,p,hz⟩:=I1.list hq
 refine wpAny_pyIter_list p.isList ?_
 refine⟨s1.heap.objs.size,[s1.heap.objs.size],_,_,H1,rfl,I1.kept (t':=s1.toks) fun b o e=>Heap.get?_push_of_some _ e,turn_list a _,⟨_,Heap.get?_push_size _ rfl,rfl,rfl⟩,fun b hb=>?_,q⟩
 have e:b=s1.heap.objs.size:=by simpa using hb
 subst e
 exact I1.fpOk (Nat.le_refl _) (I1.hok.fresh (Nat.le_refl _))
theorem pi_tup{l:Expr}{tl:TE}(hl:PE X l tl):PI X tg l (iTup X.K tl):=by
 intro pins s σ H R I h
 refine thn (hl pins s σ H _ I h) fun v s1 ⟨x,H1,I1,r1,q1⟩=>?_
 obtain⟨a,e,⟨xs,hq⟩,q⟩:=q1
 subst e
 cases r1
 obtain⟨its,rv,p,hz⟩:=I1.tuple hq
 refine wpAny_pyIter_tuple (show s1.heap.IsTuple a its.toArray from p) ?_
 refine⟨s1.heap.objs.size,[s1.heap.objs.size],_,_,H1,rfl,I1.kept (t':=s1.toks) fun b o e=>Heap.get?_push_of_some _ e,turn_tuple a _,⟨_,Heap.get?_push_size _ rfl,rfl,rfl⟩,fun b hb=>?_,q⟩
 have e:b=s1.heap.objs.size:=by simpa using hb
 subst e
 exact I1.fpOk (Nat.le_refl _) (I1.hok.fresh (Nat.le_refl _))
theorem range_it{pins:List (Addr×Obj)}{σ:St}{H:Hp}{s:Shared}{R:It->Hp->Prop}{E:Value->Shared->Prop}{lo hi:Int}{t u v:Tok}{tk:Nat}(I:Inv X pins σ H s)(h1:-(2^62)≤lo)(h2:lo<2^62)(h3:-(2^62)≤hi)(h4:hi<2^62)
  (q:R (Itr lo (hi-lo).toNat) H):wpAny (model X.prog X.w) X.A (pyIter (.ref s.heap.objs.size)) (PIE X pins σ tg R) E { s with heap:=s.heap.push { cls:=.type "range",data:=.fields #[.int lo t,.int hi u,.int 1 v] },toks:=tk }:=by
 refine wpAny_pyIter_range (IsRange.new ..) (small_one h1 h2 h3 h4) ?_
 have I1:Inv X pins σ H { s with heap:=s.heap.push { cls:=.type "range",data:=.fields #[.int lo t,.int hi u,.int 1 v] },toks:=tk }:=I.kept fun b o e=>Heap.get?_push_of_some _ e
 refine⟨(s.heap.push { cls:=.type "range",data:=.fields #[.int lo t,.int hi u,.int 1 v] }).objs.size,[(s.heap.push { cls:=.type "range",data:=.fields #[.int lo t,.int hi u,.int 1 v] }).objs.size],_,_,H,rfl,
  I1.kept (t':=tk) fun b o e=>Heap.get?_push_of_some _ e,turn_range _ lo (hi-lo).toNat,?_,fun b hb=>?_,q⟩
 ·have e1:lo+((0:Nat):Int)*1=lo:=by simp
  have e2:(((hi-lo).toNat:Nat):Int)-((0:Nat):Int)=Builtin.Range.rangeSize lo hi 1:=by rw[rangeSize_one];split<;>omega
  show IsRangeIter _ _ (lo+((0:Nat):Int)*1) ((((hi-lo).toNat:Nat):Int)-((0:Nat):Int)) 1
  rw[e1,e2]
  exact Heap.get?_push_size _ rfl
 ·have e:b=(s.heap.push { cls:=.type "range",data:=.fields #[.int lo t,.int hi u,.int 1 v] }).objs.size:=by simpa using hb
  subst e
  exact I1.fpOk (Nat.le_refl _) (I1.hok.fresh (Nat.le_refl _))
def iRng1(ta:TA):TI:=fun σ H R=>ta σ H fun vs H1=>∃j:Int,vs=[.int j]∧-(2^62)≤j∧j<2^62∧R (Itr 0 j.toNat) H1
theorem pi_range1 {a:Expr}{ta:TA}{p pos:Pos} (hg:Gl X "range") (hm:X.mg "range"=none) (ha:PA X [a] ta) (hs:starEach [a] X.env=[(false,eval a X.env)]:=by rfl):PI X tg (.Call (.Name "range" p) [a] [] pos) (iRng1 ta):=by
 intro pins s σ H R I h
 refine Call_ (ld_blt I hg hm boot_range (PyProof.Rows.callWith_type1 (thn (ha pos pins s σ H _ I h) fun us s1 ⟨vs,H1,I1,r1,q1⟩=>?_) hs rfl))
 obtain⟨j,e,q1,q2,q⟩:=q1
 subst e
 cases r1 with
 |cons r rr=>
   cases rr
   obtain⟨t,rfl⟩:=r
   exact call_range_1 (range_it I1 (by omega) (by omega) q1 q2 (by simpa using q))
def tFor(wi:TI)(g:TG)(tb:TS):TS:=fun D σ H=>wi σ H fun J H1=>∃W:Nat->Nat->St->Hp->Prop,(∃m,W 0 m σ H1)∧∀i m σ H,W i m σ H->
 (J.stop i H∧D.nx σ H)∨(J.go i H∧∃N:St->Hp->Prop,(∀σ' H',N σ' H'->∃m',m'<m∧W (i+1) m' σ' H')∧∀x H',J.yld i H x H'->g x σ H' fun σ2 H2=>tb { D with nx:=N,ct:=N,bk:=D.nx } σ2 H2)
def pinsAt(fp:List Addr)(h:Heap):List (Addr×Obj):=fp.filterMap fun b=>(h.get? b).map fun o=>(b,o)
theorem mem_pinsAt{fp:List Addr}{h:Heap}{b:Addr}{o:Obj}(hb:b∈fp)(e:h.get? b=some o):(b,o)∈pinsAt fp h:=List.mem_filterMap.mpr ⟨b,hb,by rw[e];rfl⟩
theorem of_pinsAt {fp:List Addr}{h:Heap}{p:Addr×Obj} (hp:p∈pinsAt fp h):p.1∈fp∧h.get? p.1=some p.2:=by
 obtain⟨b,hb,e⟩:=List.mem_filterMap.mp hp
 cases q:h.get? b with
 |none=>rw[q] at e;cases e
 |some o=>
   rw[q] at e
   have e':(b,o)=p:=Option.some.inj e
   subst e'
   exact⟨hb,q⟩
theorem Inv.pinned{pins:List (Addr×Obj)}{σ:St}{H:Hp}{s:Shared}{fp:List Addr}(I:Inv X pins σ H s)(hf:∀b∈fp,FpOk X pins H b)(ho:∀b∈fp,∃o,s.heap.get? b=some o∧∀v,o.data≠.cell v):Inv X (pins++pinsAt fp s.heap) σ H s:=
 I.pins_of fun p hp=>(List.mem_append.mp hp).elim (fun z=>I.pin p (List.mem_append_right _ z)) fun z=>by
  obtain⟨hb,e⟩:=of_pinsAt z
  obtain⟨f0,f1,f2,_⟩:=hf p.1 hb
  obtain⟨o,e',d⟩:=ho p.1 hb
  rw[e] at e';cases e'
  exact⟨e,f0,f1,f2,d⟩
theorem Inv.unpinned{pins pl:List (Addr×Obj)}{σ:St}{H:Hp}{s:Shared}(I:Inv X (pins++pl) σ H s):Inv X pins σ H s:=I.pins_of fun p hp=>I.pin p (List.mem_append_right _ (List.mem_append_left _ hp))
theorem ps_for {iter:Expr}{body:List Stmt}{wi:TI}{g:TG}{tb:TS}{pos:Pos} (hp:PassesOwn (model X.prog X.w) X.A X.env X.xe) (hc:X.calm=true) (hi:PI X tg iter wi) (hg:PG X tg g) (hb:PSs X body tb)
  (hs:∀x,foldedSetIterable iter X.env x=pure x:=by intro _;rfl):PS X (.For tg iter body [] pos) (tFor wi g tb):=by
 intro pins s σ H D I h
 refine wpAny_For (thn (hi pins s σ H _ I h) fun v s1 h1=>thn h1 fun itv s2 h2=>?_) hs
 obtain⟨it,fp,tn,J,H2,e,I2,T,st2,f2,W,⟨m0,w0⟩,turn⟩:=h2
 subst e
 -- what stays true of the iterator's objects through the loop
 have stat:∀{H':Hp},(∀b∈fp,H' b=none)->∀b∈fp,FpOk X pins H' b:=fun hn b hb=>⟨hn b hb,(f2 b hb).2⟩
 refine codeAny_forLoop_any (fun n s'=>∃i σ' H',Inv X pins σ' H' s'∧tn i s'.heap∧(∀b∈fp,H' b=none)∧W i n σ' H') ?_ m0 ⟨0,σ,H2,I2,st2,fun b hb=>(f2 b hb).1,w0⟩
 rintro n s3 ⟨i,σ3,H3,I3,st3,fr3,w3⟩
 rcases turn i n σ3 H3 w3 with ⟨stop,qn⟩ | ⟨go,N,hN,step⟩
 ·refine wpAny_passesOwn hp (thn (T.done X rfl rfl rfl hc i pins s3 σ3 H3 X.xe I3 (stat fr3) st3 stop) fun r s4 ⟨hr,I4⟩=>?_)
  subst hr
  exact wpAny_execs_nil ⟨σ3,H3,I4,qn⟩
 ·refine wpAny_passesOwn hp (thn (T.item X rfl rfl rfl hc i pins s3 σ3 H3 X.xe I3 (stat fr3) st3 go) fun r s4 ⟨u,hr,h4⟩=>?_)
  subst hr
  refine wpAny_passesOwn hp (thn h4 fun _ s5 ⟨x,H5,I5,r5,y5,st5,fr5⟩=>?_)
  have I5':=I5.pinned (stat fr5) (T.obj _ _ st5)
  refine wpAny_passesOwn hp (thn (hg _ s5 σ3 H5 x u _ I5' r5 (step x H5 y5)) fun _ s6 ⟨σ6,H6,I6,q6⟩=>?_)
  refine wpAny_passesOwn hp (thn (hb _ s6 σ6 H6 _ I6 q6) fun f s7 q7=>?_)
  have again:∀{σ7:St}{H7:Hp},Inv X (pins++pinsAt fp s5.heap) σ7 H7 s7->N σ7 H7->∃m,m<n∧∃i σ' H',Inv X pins σ' H' s7∧tn i s7.heap∧(∀b∈fp,H' b=none)∧W i m σ' H':=fun {σ7 H7} I7 n7=>by
   obtain⟨m',hm,w7⟩:=hN σ7 H7 n7
   refine⟨m',hm,i+1,σ7,H7,I7.unpinned,T.keep _ _ _ st5 fun b hb o e=>(I7.pin (b,o) (List.mem_append_right _ (List.mem_append_right _ (mem_pinsAt hb e)))).1,fun b hb=>?_,w7⟩
   obtain⟨o,e,d⟩:=T.obj _ _ st5 b hb
   exact (I7.pin (b,o) (List.mem_append_right _ (List.mem_append_right _ (mem_pinsAt hb e)))).2.1
  cases f with
  |next=>obtain⟨σ7,H7,I7,n7⟩:=q7;exact again I7 n7
  |cont=>obtain⟨σ7,H7,I7,n7⟩:=q7;exact again I7 n7
  |brk=>obtain⟨σ7,H7,I7,q7⟩:=q7;exact⟨σ7,H7,I7.unpinned,q7⟩
  |ret v=>obtain⟨x7,σ7,H7,I7,r7,q7⟩:=q7;exact⟨x7,σ7,H7,I7.unpinned,r7,q7⟩
end
open PySem PySem.Spec PyProof.Rows
abbrev R2:=V->V->Hp->VK->Prop
def OpR (X:Cx) (f:Value->Value->Sem Value) (r:R2):Prop:=
 ∀(pins:List (Addr×Obj)) (s:Shared) (σ:St) (H:Hp) (x y:V) (v u:Value) (Q:VK),Inv X pins σ H s->RelV x v->RelV y u->r x y H Q->
   wpAny (model X.prog X.w) X.A (f v u) (EP X pins σ Q) X.xe s
def UnR (X:Cx) (f:Value->Sem Value) (r:V->Hp->VK->Prop):Prop:=
 ∀(pins:List (Addr×Obj)) (s:Shared) (σ:St) (H:Hp) (x:V) (v:Value) (Q:VK),Inv X pins σ H s->RelV x v->r x H Q->
   wpAny (model X.prog X.w) X.A (f v) (EP X pins σ Q) X.xe s
def CallR (X:Cx) (f:Value) (r:List V->Hp->VK->Prop):Prop:=
 ∀(pins:List (Addr×Obj)) (s:Shared) (σ:St) (H:Hp) (xs:List V) (us:List Value) (Q:VK),Inv X pins σ H s->Vals xs us->r xs H Q->
   wpAny (model X.prog X.w) X.A (call f us) (EP X pins σ Q) X.xe s
def TruR (X:Cx) (r:V->Hp->(Bool->Hp->Prop)->Prop):Prop:=
 ∀(pins:List (Addr×Obj)) (s:Shared) (σ:St) (H:Hp) (x:V) (v:Value) (Q:Bool->Hp->Prop),Inv X pins σ H s->RelV x v->r x H Q->
   wpAny (model X.prog X.w) X.A (truthy v) (TP X pins σ Q) X.xe s
def tOp(r:R2)(ta tb:TE):TE:=fun σ H Q=>ta σ H fun x H1=>tb σ H1 fun y H2=>r x y H2 Q
def tUn(r:V->Hp->VK->Prop)(ta:TE):TE:=fun σ H Q=>ta σ H fun x H1=>r x H1 Q
def rI(C:Int->Int->Prop)(g:Int->Int->V):R2:=fun x y H Q=>∃i j,x=.int i∧y=.int j∧C i j∧Q (g i j) H
def rI0(g:Int->Int->V):R2:=fun x y H Q=>∃i j,x=.int i∧y=.int j∧Q (g i j) H
def rU(g:Int->V):V->Hp->VK->Prop:=fun x H Q=>∃i,x=.int i∧Q (g i) H
section
variable{X:Cx}{a b c:Expr}{ta tb tc:TE}{pos:Pos}
theorem binT(ha:PE X a ta)(hb:PE X b tb){pins:List (Addr×Obj)}{s:Shared}{σ:St}{H:Hp}{R:V->V->Hp->Prop}(I:Inv X pins σ H s)
  (h:ta σ H fun x H1=>tb σ H1 fun y H2=>R x y H2) {Q:Value->Shared->Prop}{f:Value->Value->Sem Value}
  (hf:∀v u s2 x y H2,Inv X pins σ H2 s2->RelV x v->RelV y u->R x y H2->wpAny (model X.prog X.w) X.A (f v u) Q X.xe s2) :
  wpAny (model X.prog X.w) X.A (eval a X.env) (fun v s₁=>wpAny (model X.prog X.w) X.A (eval b X.env) (fun u s₂=>wpAny (model X.prog X.w) X.A (f v u) Q X.xe s₂) X.xe s₁) X.xe s:=by
 refine thn (ha pins s σ H _ I h) fun v s1 ⟨x,H1,I1,r1,q1⟩=>?_
 refine thn (hb pins s1 σ H1 _ I1 q1) fun u s2 ⟨y,H2,I2,r2,q2⟩=>?_
 exact hf v u s2 x y H2 I2 r1 r2 q2
theorem pe_op{op:Operator}{r:R2}(ho:OpR X (binaryOp op) r)(ha:PE X a ta)(hb:PE X b tb):PE X (.BinOp a op b pos) (tOp r ta tb):=by
 intro pins s σ H Q I h
 exact wpAny_BinOp (binT ha hb I h fun v u s2 x y H2 I2 rx ry q=>ho pins s2 σ H2 x y v u Q I2 rx ry q)
theorem pe_un{op:UnaryOp}{r:V->Hp->VK->Prop}(ho:UnR X (unaryOp op) r)(ha:PE X a ta):PE X (.UnaryOp op a pos) (tUn r ta):=by
 intro pins s σ H Q I h
 exact UnaryOp_ (thn (ha pins s σ H _ I h) fun v s1 ⟨x,H1,I1,r1,q1⟩=>ho pins s1 σ H1 x v Q I1 r1 q1)
theorem opI{f:Value->Value->Sem Value}{C:Int->Int->Prop}{g:Int->Int->Int}
  (rule:∀(i j:Int) (t u:Tok) (s:Shared) (Q:Value->Shared->Prop) (E:Value->Shared->Prop),C i j->Q (.int (g i j) s.toks) { s with toks:=s.toks+1 }->wpAny (model X.prog X.w) X.A (f (.int i t) (.int j u)) Q E s) :
  OpR X f (rI C fun i j=>.int (g i j)):=by
 intro pins s σ H x y v u Q I rx ry h
 obtain⟨i,j,rfl,rfl,hc,q⟩:=h
 obtain⟨t,rfl⟩:=rx
 obtain⟨t',rfl⟩:=ry
 exact rule i j t t' s _ _ hc ⟨.int (g i j),H,I.tok _,⟨_,rfl⟩,q⟩
theorem opI0{f:Value->Value->Sem Value}{g:Int->Int->Int}
  (rule:∀(i j:Int) (t u:Tok) (s:Shared) (Q:Value->Shared->Prop) (E:Value->Shared->Prop),Q (.int (g i j) s.toks) { s with toks:=s.toks+1 }->wpAny (model X.prog X.w) X.A (f (.int i t) (.int j u)) Q E s) :
  OpR X f (rI0 fun i j=>.int (g i j)):=by
 intro pins s σ H x y v u Q I rx ry h
 obtain⟨i,j,rfl,rfl,q⟩:=h
 obtain⟨t,rfl⟩:=rx
 obtain⟨t',rfl⟩:=ry
 exact rule i j t t' s _ _ ⟨.int (g i j),H,I.tok _,⟨_,rfl⟩,q⟩
theorem opB0{f:Value->Value->Sem Value}{g:Int->Int->Bool}
  (rule:∀(i j:Int) (t u:Tok) (s:Shared) (Q:Value->Shared->Prop) (E:Value->Shared->Prop),Q (.bool (g i j)) s->wpAny (model X.prog X.w) X.A (f (.int i t) (.int j u)) Q E s) :
  OpR X f (rI0 fun i j=>.bl (g i j)):=by
 intro pins s σ H x y v u Q I rx ry h
 obtain⟨i,j,rfl,rfl,q⟩:=h
 obtain⟨t,rfl⟩:=rx
 obtain⟨t',rfl⟩:=ry
 exact rule i j t t' s _ _ ⟨.bl (g i j),H,I,rfl,q⟩
def CPow(i j:Int):Prop:=0≤j∧j≤1000000∧i.natAbs<2^64
theorem op_add:OpR X (binaryOp .Add) (rI0 fun i j=>.int (i+j)):=opI0 fun _ _ _ _ _ _ _ q=>add_int q
theorem op_sub:OpR X (binaryOp .Sub) (rI0 fun i j=>.int (i-j)):=opI0 fun _ _ _ _ _ _ _ q=>sub_int q
theorem op_mod:OpR X (binaryOp .Mod) (rI (fun _ j=>0<j) fun i j=>.int (i%j)):=opI fun i j _ _ _ _ _ hc q=>by
 have h1:(0:Int)<j:=hc
 exact mod_int' (by omega) (by rw[Int.fmod_eq_emod_of_nonneg i (by omega)];exact q)
theorem op_pow:OpR X (binaryOp .Pow) (rI CPow fun i j=>.int (i^j.toNat)):=opI fun _ _ _ _ _ _ _ hc q=>pow_int_small hc.1 hc.2.1 hc.2.2 q
theorem unI{f:Value->Sem Value}{g:Int->Int}
  (rule:∀(i:Int) (t:Tok) (s:Shared) (Q:Value->Shared->Prop) (E:Value->Shared->Prop),Q (.int (g i) s.toks) { s with toks:=s.toks+1 }->wpAny (model X.prog X.w) X.A (f (.int i t)) Q E s) :
  UnR X f (rU fun i=>.int (g i)):=by
 intro pins s σ H x v Q I rx h
 obtain⟨i,rfl,q⟩:=h
 obtain⟨t,rfl⟩:=rx
 exact rule i t s _ _ ⟨.int (g i),H,I.tok _,⟨_,rfl⟩,q⟩
theorem un_neg:UnR X (unaryOp .USub) (rU fun i=>.int (-i)):=unI fun _ _ _ _ _ q=>neg_int q
end
def scal:V->V->Bool
 |.non,.non=>true | .non,.int _=>true | .int _,.non=>true | .non,.bl _=>true | .bl _,.non=>true | .non,.str _=>true | .str _,.non=>true
 |.int _,.int _=>true | .bl _,.bl _=>true | .str _,.str _=>true | .byt _,.byt _=>true
 |.int _,.str _=>true | .str _,.int _=>true | .bl _,.str _=>true | .str _,.bl _=>true
 |_,_=>false
def rEq:R2:=fun x y H Q=>scal x y=true∧Q (.bl (decide (x=y))) H
def rNe:R2:=fun x y H Q=>scal x y=true∧Q (.bl (!decide (x=y))) H
theorem dec_int{i j:Int}:decide (V.int i=V.int j)=(i==j):=by
 rw[Bool.eq_iff_iff]
 simp
theorem dec_bl{i j:Bool}:decide (V.bl i=V.bl j)=(i==j):=by
 rw[Bool.eq_iff_iff]
 simp
theorem dec_str{i j:Str}:decide (V.str i=V.str j)=(i==j):=by
 rw[Bool.eq_iff_iff]
 simp
theorem dec_byt{i j:Array UInt8}:decide (V.byt i=V.byt j)=(i.toList==j.toList):=by
 rw[Bool.eq_iff_iff]
 cases i
 cases j
 simp
section
variable{X:Cx}{a b c:Expr}{ta tb tc:TE}{pos:Pos}
theorem fin_bl{pins:List (Addr×Obj)}{σ:St}{H:Hp}{s:Shared}{Q:VK}{k k':Bool}(I:Inv X pins σ H s)(q:Q (.bl k) H)(e:k=k'):EP X pins σ Q (.bool k') s:=by
 subst e
 exact⟨.bl k,H,I,rfl,q⟩
theorem op_eq:OpR X (compareOp .Eq) rEq:=by
 intro pins s σ H x y v u Q I rx ry h
 obtain⟨hs,q⟩:=h
 cases x with
 |non=>
   cases rx
   cases y with
   |non=>cases ry;exact PySem.EqNone.eq_none_none (fin_bl I q (by simp))
   |bl j=>cases ry;exact PySem.EqNone.eq_none_bool (fin_bl I q (by simp))
   |int j=>obtain⟨t',rfl⟩:=ry;exact PySem.EqNone.eq_none_int (fin_bl I q (by simp))
   |str j=>obtain⟨t',rfl⟩:=ry;exact PySem.EqNone.eq_none_str (fin_bl I q (by simp))
   |_=>exact absurd (show false=true from hs) Bool.false_ne_true
 |bl i=>
   cases rx
   cases y with
   |non=>cases ry;exact PySem.EqNone.eq_bool_none (fin_bl I q (by simp))
   |bl j=>cases ry;exact eq_bool (fin_bl I q dec_bl)
   |str j=>obtain⟨t',rfl⟩:=ry;exact PySem.EqMixed.eq_bool_str (fin_bl I q (by simp))
   |_=>exact absurd (show false=true from hs) Bool.false_ne_true
 |int i=>
   obtain⟨t,rfl⟩:=rx
   cases y with
   |non=>cases ry;exact PySem.EqNone.eq_int_none (fin_bl I q (by simp))
   |int j=>obtain⟨t',rfl⟩:=ry;exact eq_int (fin_bl I q dec_int)
   |str j=>obtain⟨t',rfl⟩:=ry;exact PySem.EqMixed.eq_int_str (fin_bl I q (by simp))
   |_=>exact absurd (show false=true from hs) Bool.false_ne_true
 |str i=>
   obtain⟨t,rfl⟩:=rx
   cases y with
   |non=>cases ry;exact PySem.EqNone.eq_str_none (fin_bl I q (by simp))
   |bl j=>cases ry;exact PySem.EqMixed.eq_str_bool (fin_bl I q (by simp))
   |int j=>obtain⟨t',rfl⟩:=ry;exact PySem.EqMixed.eq_str_int (fin_bl I q (by simp))
   |str j=>obtain⟨t',rfl⟩:=ry;exact eq_str (fin_bl I q dec_str)
   |_=>exact absurd (show false=true from hs) Bool.false_ne_true
 |byt i=>
   obtain⟨t,rfl⟩:=rx
   cases y with
   |byt j=>obtain⟨t',rfl⟩:=ry;exact PySem.W.eq_bytes (fin_bl I q dec_byt)
   |_=>exact absurd (show false=true from hs) Bool.false_ne_true
 |_=>cases y<;>exact absurd (show false=true from hs) Bool.false_ne_true
theorem op_ne:OpR X (compareOp .NotEq) rNe:=by
 intro pins s σ H x y v u Q I rx ry h
 obtain⟨hs,q⟩:=h
 cases x with
 |non=>
   cases rx
   cases y with
   |non=>cases ry;exact PySem.EqNone.ne_none_none (fin_bl I q (by simp))
   |bl j=>cases ry;exact PySem.EqNone.ne_none_bool (fin_bl I q (by simp))
   |int j=>obtain⟨t',rfl⟩:=ry;exact PySem.EqNone.ne_none_int (fin_bl I q (by simp))
   |str j=>obtain⟨t',rfl⟩:=ry;exact PySem.EqNone.ne_none_str (fin_bl I q (by simp))
   |_=>exact absurd (show false=true from hs) Bool.false_ne_true
 |bl i=>
   cases rx
   cases y with
   |non=>cases ry;exact PySem.EqNone.ne_bool_none (fin_bl I q (by simp))
   |bl j=>cases ry;exact ne_bool (fin_bl I q (congrArg not dec_bl))
   |str j=>obtain⟨t',rfl⟩:=ry;exact PySem.EqMixed.ne_bool_str (fin_bl I q (by simp))
   |_=>exact absurd (show false=true from hs) Bool.false_ne_true
 |int i=>
   obtain⟨t,rfl⟩:=rx
   cases y with
   |non=>cases ry;exact PySem.EqNone.ne_int_none (fin_bl I q (by simp))
   |int j=>obtain⟨t',rfl⟩:=ry;exact ne_int (fin_bl I q (congrArg not dec_int))
   |str j=>obtain⟨t',rfl⟩:=ry;exact PySem.EqMixed.ne_int_str (fin_bl I q (by simp))
   |_=>exact absurd (show false=true from hs) Bool.false_ne_true
 |str i=>
   obtain⟨t,rfl⟩:=rx
   cases y with
   |non=>cases ry;exact PySem.EqNone.ne_str_none (fin_bl I q (by simp))
   |bl j=>cases ry;exact PySem.EqMixed.ne_str_bool (fin_bl I q (by simp))
   |int j=>obtain⟨t',rfl⟩:=ry;exact PySem.EqMixed.ne_str_int (fin_bl I q (by simp))
   |str j=>obtain⟨t',rfl⟩:=ry;exact ne_str (fin_bl I q (congrArg not dec_str))
   |_=>exact absurd (show false=true from hs) Bool.false_ne_true
 |byt i=>
   obtain⟨t,rfl⟩:=rx
   cases y with
   |byt j=>obtain⟨t',rfl⟩:=ry;exact PySem.W.ne_bytes (fin_bl I q (congrArg not dec_byt))
   |_=>exact absurd (show false=true from hs) Bool.false_ne_true
 |_=>cases y<;>exact absurd (show false=true from hs) Bool.false_ne_true
theorem op_lt:OpR X (compareOp .Lt) (rI0 fun i j=>.bl (decide (i<j))):=opB0 fun _ _ _ _ _ _ _ q=>lt_int q
theorem op_le:OpR X (compareOp .LtE) (rI0 fun i j=>.bl (decide (i≤j))):=opB0 fun _ _ _ _ _ _ _ q=>le_int q
theorem op_gt:OpR X (compareOp .Gt) (rI0 fun i j=>.bl (decide (j<i))):=opB0 fun _ _ _ _ _ _ _ q=>gt_int q
theorem op_ge:OpR X (compareOp .GtE) (rI0 fun i j=>.bl (decide (j≤i))):=opB0 fun _ _ _ _ _ _ _ q=>ge_int q
theorem OpR.or{f:Value->Value->Sem Value}{r r':R2}(h:OpR X f r)(h':OpR X f r'):OpR X f (fun x y H Q=>r x y H Q∨r' x y H Q):=by
 intro pins s σ H x y v u Q I rx ry q
 rcases q with q | q
 ·exact h pins s σ H x y v u Q I rx ry q
 ·exact h' pins s σ H x y v u Q I rx ry q
theorem nomark(b:Expr){op:CmpOp}(h:op≠.In:=by decide)(h2:op≠.NotIn:=by decide):behindInMarks op b=false:=by
 have e1:(op==CmpOp.In)=false:=by cases op<;>first | rfl | exact absurd rfl h
 have e2:(op==CmpOp.NotIn)=false:=by cases op<;>first | rfl | exact absurd rfl h2
 cases b<;>simp[behindInMarks,e1,e2]
theorem pe_cmpR{op:CmpOp}{r:R2}(ho:OpR X (compareOp op) r)(ha:PE X a ta)(hb:PE X b tb)(hm:behindInMarks op b=false):PE X (.Compare a [op] [b] pos) (tOp r ta tb):=by
 intro pins s σ H Q I h
 exact wpAny_Compare1 (binT ha hb I h fun v u s2 x y H2 I2 rx ry q=>ho pins s2 σ H2 x y v u Q I2 rx ry q) hm
def tTest(t:TE):TT:=fun σ H Q=>t σ H fun x H'=>∃k,x=.bl k∧Q k H'
theorem pt_cmpR{op:CmpOp}{r:R2}(ho:OpR X (compareOp op) r)(ha:PE X a ta)(hb:PE X b tb)(hm:behindInMarks op b=false):PT X (.Compare a [op] [b] pos) (tTest (tOp r ta tb)):=by
 intro pins s σ H Q I h
 refine wpAny_isTrue_Compare1 (thn (ha pins s σ H _ I h) fun v s1 ⟨x,H1,I1,r1,q1⟩=>thn (hb pins s1 σ H1 _ I1 q1) fun u s2 ⟨y,H2,I2,r2,q2⟩=>
  thn (ho pins s2 σ H2 x y v u _ I2 r1 r2 q2) fun c s3 ⟨z,H3,I3,r3,k,e,q3⟩=>?_) hm
 subst e
 cases r3
 exact wpAny_truthy_bool ⟨H3,I3,q3⟩
def tChain(r r':R2)(ta tb tc:TE):TE:=fun σ H Q=>ta σ H fun x H1=>tb σ H1 fun y H2=>r x y H2 fun z H3=>∃k,z=.bl k ∧
 (if k=true then tc σ H3 fun w' H4=>r' y w' H4 Q else Q (.bl false) H3)
theorem pe_chain{op op':CmpOp}{r r':R2}(ho:OpR X (compareOp op) r)(ho':OpR X (compareOp op') r')(ha:PE X a ta)(hb:PE X b tb)(hc:PE X c tc)
  (hm:lastMarks [op,op'] [b,c]=false:=by with_unfolding_all rfl):PE X (.Compare a [op,op'] [b,c] pos) (tChain r r' ta tb tc):=by
 intro pins s σ H Q I h
 refine Compare_chain (thn (ha pins s σ H _ I h) fun v s1 ⟨x,H1,I1,r1,q1⟩=>chain_link (thn (hb pins s1 σ H1 _ I1 q1) fun u s2 ⟨y,H2,I2,r2,q2⟩=>
  thn (ho pins s2 σ H2 x y v u _ I2 r1 r2 q2) fun d s3 ⟨z,H3,I3,r3,k,e,q3⟩=>?_)) hm
 subst e
 cases r3
 refine wpAny_truthy_bool ?_
 cases k with
 |false=>exact ite_ff ⟨.bl false,H3,I3,rfl,q3⟩
 |true=>exact ite_tt (chain_last (thn (hc pins s3 σ H3 _ I3 q3) fun w' s4 ⟨z',H4,I4,r4,q4⟩=>ho' pins s4 σ H4 y z' u w' Q I4 r2 r4 q4))
theorem pt_chain {op op':CmpOp}{r r':R2} (ho:OpR X (compareOp op) r) (ho':OpR X (compareOp op') r') (ha:PE X a ta) (hb:PE X b tb) (hc:PE X c tc)
  (hm:lastMarks [op,op'] [b,c]=false:=by with_unfolding_all rfl):PT X (.Compare a [op,op'] [b,c] pos) (tTest (tChain r r' ta tb tc)):=by
 intro pins s σ H Q I h
 refine isTrue_chain (thn (ha pins s σ H _ I h) fun v s1 ⟨x,H1,I1,r1,q1⟩=>test_link (thn (hb pins s1 σ H1 _ I1 q1) fun u s2 ⟨y,H2,I2,r2,q2⟩=>
  thn (ho pins s2 σ H2 x y v u _ I2 r1 r2 q2) fun d s3 ⟨z,H3,I3,r3,k,e,q3⟩=>?_)) hm
 subst e
 cases r3
 refine wpAny_truthy_bool ?_
 cases k with
 |false=>
   obtain⟨k',e',q'⟩:=q3
   cases e'
   exact ite_ff ⟨H3,I3,q'⟩
 |true=>
   refine ite_tt (test_last (thn (hc pins s3 σ H3 _ I3 q3) fun w' s4 ⟨z',H4,I4,r4,q4⟩=>thn (ho' pins s4 σ H4 y z' u w' _ I4 r2 r4 q4) fun d' s5 ⟨z2,H5,I5,r5,k2,e2,q5⟩=>?_))
   subst e2
   cases r5
   exact wpAny_truthy_bool ⟨H5,I5,q5⟩
def TruV(K:PySem.W.Frag)(x:V)(H:Hp)(k:Bool):Prop:=
 match x with
 |.non=>k=false
 |.bl b=>k=b
 |.int i=>k=(i != 0)
 |.str y=>y.length≤sizeLine∧k=((y.length:Int) != 0)
 |.byt y=>y.size≤sizeLine∧k=((y.size:Int) != 0)
 |.ref p=>(∃xs,SqL K H p xs∧k=!xs.isEmpty)∨(∃xs,SqT K H p xs∧k=!xs.isEmpty)∨∃kvs,H p=some (.dK kvs)∧k=!kvs.isEmpty
 |_=>False
theorem isEmpty_kv{κ:Type}{kvs:List (κ×V)}{vs:List (κ×Value)}(r:KV kvs vs):(!vs.isEmpty)=!kvs.isEmpty:=by
 cases r<;>rfl
theorem isEmpty_of{xs:List V}{its:List Value}(r:Vals xs its):(!its.toArray.isEmpty)=!xs.isEmpty:=by
 cases r<;>simp
theorem line63:(sizeLine:Nat)<2^63:=by rw[sizeLine_eq];decide
theorem tru_ok:TruR X (fun x H Q=>∃ k,TruV X.K x H k∧Q k H):=by
 intro pins s σ H x v Q I rx h
 obtain⟨k,e,q⟩:=h
 have hl:=line63
 have hs:sizeLine=16777216:=sizeLine_eq
 cases x with
 |non=>
   cases rx
   have e':k=false:=e
   subst e'
   exact truthy_none ⟨H,I,q⟩
 |bl b=>
   cases rx
   have e':k=b:=e
   subst e'
   exact wpAny_truthy_bool ⟨H,I,q⟩
 |int i=>
   obtain⟨t,rfl⟩:=rx
   have e':k=(i != 0):=e
   subst e'
   exact PySem.P.truthy_int ⟨H,I,q⟩
 |str y=>
   obtain⟨t,rfl⟩:=rx
   obtain⟨hy,e'⟩:y.length≤sizeLine∧k=((y.length:Int) != 0):=e
   subst e'
   exact PySem.P.truthy_str (by omega) ⟨H,I.tok _,q⟩
 |byt y=>
   obtain⟨t,rfl⟩:=rx
   obtain⟨hy,e'⟩:y.size≤sizeLine∧k=((y.size:Int) != 0):=e
   subst e'
   exact PySem.W.truthy_bytes (by omega) ⟨H,I.tok _,q⟩
 | ref p=>
   cases rx
   have e':(∃xs,SqL X.K H p xs∧k=!xs.isEmpty)∨(∃xs,SqT X.K H p xs∧k=!xs.isEmpty)∨∃kvs,H p=some (.dK kvs)∧k=!kvs.isEmpty:=e
   rcases e' with ⟨xs,hx,e'⟩ | ⟨xs,hx,e'⟩ | ⟨kvs,hx,e'⟩
   ·subst e'
    obtain⟨its,r,pl,hz⟩:=I.list hx
    have hlen:=r.length
    exact wpAny_truthy_list pl.isList (by simp only[List.size_toArray];omega) ⟨H,I.tok _,by rw[isEmpty_of r];exact q⟩
   ·subst e'
    obtain⟨its,r,pl,hz⟩:=I.tuple hx
    have hlen:=r.length
    exact truthy_tuple pl (by simp only[List.size_toArray];omega) ⟨H,I.tok _,by rw[isEmpty_of r];exact q⟩
   ·subst e'
    obtain⟨hz,hS,vs,r,m⟩:kvs.length≤sizeLine∧(p==sysModules)=false∧∃vs,KV kvs vs∧s.heap.DictOf (mixKind X.prog X.w) p vs:=I.hok p _ hx
    have hlen:kvs.length=vs.length:=Paired.length r
    exact wpAny_truthy_dict hS m (by omega) ⟨H,I.tok _,by rw[isEmpty_kv r];exact q⟩
 |_=>exact (show False from e).elim
theorem pt_truth(ha:PE X a ta)(he:∀whole,isTrue a X.env whole=(do let v ←whole;standAt a.pos;holding [v] (truthy v))) :
  PT X a (fun σ H Q=>ta σ H fun x H'=>∃k,TruV X.K x H' k∧Q k H'):=by
 intro pins s σ H Q I h
 exact isTrue_plain (thn (ha pins s σ H _ I h) fun v s1 ⟨x,H1,I1,r1,q1⟩=>tru_ok pins s1 σ H1 x v Q I1 r1 q1) (he _)
theorem op_add_str:OpR X (binaryOp .Add) (fun x y H Q=>∃i j,x=.str i∧y=.str j∧i.length+j.length≤sizeLine∧Q (.str (i++j)) H):=by
 intro pins s σ H x y v u Q I rx ry h
 obtain⟨i,j,rfl,rfl,hz,q⟩:=h
 obtain⟨t,rfl⟩:=rx
 obtain⟨t',rfl⟩:=ry
 exact add_str (fun t' tk=>⟨.str (i++j),H,I.tok _,⟨_,rfl⟩,q⟩) hz
theorem vals1{x:V}{us:List Value}(r:Vals [x] us):∃u,us=[u]∧RelV x u:=by
 cases r with
 |cons r1 r2=>cases r2;exact⟨_,rfl,r1⟩
theorem vals2 {x y:V}{us:List Value} (r:Vals [x,y] us):∃ u w',us=[u,w']∧RelV x u∧RelV y w':=by
 cases r with
 |cons r1 r2=>
   cases r2 with
   |cons r3 r4=>cases r4;exact⟨_,_,rfl,r1,r3⟩
theorem call_abs:CallR X (.builtin "abs") (fun xs H Q=>∃i,xs=[.int i]∧Q (.int (if i<0 then -i else i)) H):=by
 intro pins s σ H xs us Q I r h
 obtain⟨i,rfl,q⟩:=h
 obtain⟨u,rfl,t,rfl⟩:=vals1 r
 exact call_abs_int fun u tk=>⟨.int (if i<0 then -i else i),H,I.tok _,⟨_,rfl⟩,q⟩
theorem call_max2(hc:X.calm=true):CallR X (.builtin "max") (fun xs H Q=>∃i j,xs=[.int i,.int j]∧Q (.int (if j > i then j else i)) H):=by
 intro pins s σ H xs us Q I r h
 obtain⟨i,j,rfl,q⟩:=h
 obtain⟨u,w',rfl,⟨t,rfl⟩,⟨t',rfl⟩⟩:=vals2 r
 refine max_two_ints (I.ok.hd hc) fun h' tk k=>⟨_,H,I.kept k,?_,q⟩
 by_cases hj:j > i
 ·rw[if_pos hj,if_pos hj];exact⟨_,rfl⟩
 ·rw[if_neg hj,if_neg hj];exact⟨_,rfl⟩
theorem call_min2(hc:X.calm=true):CallR X (.builtin "min") (fun xs H Q=>∃i j,xs=[.int i,.int j]∧Q (.int (if j<i then j else i)) H):=by
 intro pins s σ H xs us Q I r h
 obtain⟨i,j,rfl,q⟩:=h
 obtain⟨u,w',rfl,⟨t,rfl⟩,⟨t',rfl⟩⟩:=vals2 r
 refine min_two_ints (I.ok.hd hc) fun h' tk k=>⟨_,H,I.kept k,?_,q⟩
 by_cases hj:j<i
 ·rw[if_pos hj,if_pos hj];exact⟨_,rfl⟩
 ·rw[if_neg hj,if_neg hj];exact⟨_,rfl⟩
end
open PySem PySem.Spec PyProof.Rows
structure ObjM(h:Heap)(x dx C:Addr)(mA:Str->Option Value):Prop where
 obj:h.get? x=some (PySem.W.instObj C dx)
 ns:h.Ns1 dx mA
 ne:dx≠x
theorem lookIn_ns {h:Heap}{dx:Addr}{mA:Str->Option Value} (n:h.Ns1 dx mA):∃ od,h.get? dx=some od∧∀ name,PySem.W.lookIn name od=some (mA name):=by
 obtain⟨o,es,ep,ho,hd,hk,_,hm⟩:=n
 refine⟨o,ho,fun name=>?_⟩
 have e:=hm name
 unfold nsFind findBy at e
 rw[←Array.find?_toList] at e
 unfold PySem.W.lookIn
 rw[hd]
 dsimp only
 split
 ·rename_i y q
  rw[q] at e
  exact congrArg some e
 ·rename_i q
  rw[q] at e
  have a:es.toList.any (·.refKey)=false:=by
   rw[List.any_eq_false]
   intro y hy
   obtain⟨z,t,hkey⟩:=hk y (Array.mem_toList_iff.mp hy)
   simp[DictEntry.refKey,hkey]
  have a':¬ es.toList.any (·.refKey)=true:=by rw[a];exact Bool.false_ne_true
  rw[if_neg a']
  exact congrArg some e
theorem ObjM.look{h:Heap}{x dx C:Addr}{mA:Str->Option Value}(I:ObjM h x dx C mA):∃od,PySem.W.InstAt h x (PySem.W.instObj C dx) C (some od)∧∀name,PySem.W.lookIn name od=some (mA name):=
 let ⟨od,ho,hl⟩:=lookIn_ns I.ns
 ⟨od,⟨I.obj,rfl,rfl,ho⟩,hl⟩
section
variable{prog:Program}{w:World}{A:Around}{E:Value->Shared->Prop}{s:Shared}{K:PySem.W.Frag}{x dx C f:Addr}{mA:Str->Option Value}{name:Str}{v:Value}
theorem get_map{expr:Bool}{Q:Value->Shared->Prop}(X:K.In s.heap)(I:ObjM s.heap x dx C mA)(hg:PySem.W.plainGet K C name=true)(hh:PySem.W.hasDictIn K C=true)
  (ha:PySem.W.findIn K (.ref C) name=some none) (hv:mA name=some v) (hv':PySem.W.handedIn v=true) (h:Q v { s with toks:=s.toks+1 }) :
  wpAny (model prog w) A (getAttr (.ref x) name expr) Q E s:=by
 obtain⟨od,J,hl⟩:=I.look
 exact PySem.W.get_value X J (PySem.W.plainGet_of hg).1 (PySem.W.findObj_own hh ha rfl (by rw[hl,hv])) hv' h
theorem get_meth{pl:Sem Bool}{Q:Value×List Value->Shared->Prop}(X:K.In s.heap)(I:ObjM s.heap x dx C mA)(hg:PySem.W.plainGet K C name=true)
  (hf:PySem.W.findIn K (.ref C) name=some (some (.ref f))) (ht:PySem.W.isFn K (.ref f)=true) (hv:mA name=none) (h:Q (.ref f,[.ref x]) s) :
  wpAny (model prog w) A (getMethod (.ref x) name pl) Q E s:=by
 obtain⟨od,J,hl⟩:=I.look
 exact PySem.W.method_fn X J (PySem.W.plainGet_of hg).1 (PySem.W.plainGet_of hg).2 hf (beq_iff_eq.mp ht) (by show (PySem.W.lookIn name od).map (·.isSome)=some false;rw[hl,hv];rfl) h
theorem set_map{ns:List Str}{Q:Unit->Shared->Prop}(X:K.In s.heap)(I:ObjM s.heap x dx C mA)
  (hs:PySem.W.findIn K (.ref C) "__setattr__"=some (some (.builtin "object.__setattr__"))) (hp:PySem.W.plainOver K C=true) (ht:PySem.W.takerIn K C name=some none) (hh:PySem.W.hasDictIn K C=true)
  (hw:PySem.Within mA ns) (hsz:ns.length≤sizeLine)
  (h:∀h',ObjM h' x dx C (fun y=>if y=name then some v else mA y)->Heap.SameBut dx s.heap h'->Q () { s with heap:=h',toks:=s.toks+2 }) :
  wpAny (model prog w) A (setAttr (.ref x) name v) Q E s:=by
 obtain⟨od,J,hl⟩:=I.look
 refine PySem.W.set_plain X J hs (PySem.W.osa_open (s:={ s with toks:=s.toks+1 }) (r:=none) X J hp ht fun b=>?_)
 obtain⟨cd,hc,hd'⟩:=PySem.W.any_some hh
 have hx:s.heap.get? x=some ⟨.ref C,some dx,.plain,#[]⟩:=I.obj
 refine wpAny_bind (wpAny_pure (wpAny_bind (wpAny_bind (wpAny_loadPart hx (wpAny_bind (PySem.W.Looks.here (s:={ s with toks:=s.toks+1 }) (PySem.W.looks_clsIn X hc) ?_))))))
 rw[hd']
 refine wpAny_pure (a:=some dx) (wpAny_bind (wpAny_pure (wpAny_bind ?_)))
 refine wpAny_nsSet1 (s:={ s with toks:=s.toks+1 }) I.ns fun h' hn2 hs2=>?_
 obtain⟨oD,esD,epD,hoD,hdD,hcD⟩:=hn2.count (PySem.Within.cons name v hw)
 refine wpAny_bind (wpAny_lookBehind hoD (by rw[hdD];exact pastItsLine_dict (Nat.le_trans hcD (by rw[List.length_cons];omega))) ?_)
 exact wpAny_pure (h _ ⟨(hs2.2 _ (Ne.symm I.ne)).trans I.obj,hn2,I.ne⟩ hs2)
theorem make_map {R:Result->Shared->Prop}{vs:List Value}{kw:List (Str×Value)} (X:K.In s.heap) (hm:PySem.W.makesIn K C=true)
  (hi:PySem.W.findIn K (.ref C) "__init__"=some (some (.ref f))) (hf:PySem.W.typeIn K (.ref f)=some (.type "function"))
  (h:codeAny (model prog w) (A.under (.builtin "type.__call__" ⟨.ref C::vs,kw⟩)) (.call (.ref f) ⟨.ref (s.heap.objs.size+1)::vs,kw⟩) (PySem.W.InitBack (s.heap.objs.size+1) R)
    { s with heap:=(s.heap.push PySem.W.emptyDict).push (PySem.W.instObj C s.heap.objs.size) }) :
  codeAny (model prog w) A (.call (.ref C) ⟨vs,kw⟩) R s:=by
 obtain⟨hh,g,d,t,os⟩:=s
 exact PySem.W.make_core (PySem.W.makes_of X hm) (PySem.W.looks_findIn X hi) (fun self=>PySem.W.bind_fn X self hf) (.inl rfl) h
end
def putF(f:Str)(v:V):List (Str×V)->List (Str×V)
 |[]=>[(f,v)]
 |(g,x)::r=>if g=f then (g,v)::r else (g,x)::putF f v r
theorem lookup_putF (f g:Str) (v:V):∀ fs:List (Str×V),(putF f v fs).lookup g=if g=f then some v else fs.lookup g
 | []=>by
   show List.lookup g [(f,v)]=_
   by_cases h:g=f
   ·have hb:(g==f)=true:=beq_iff_eq.mpr h
    simp only[List.lookup,hb,if_pos h]
   ·have hb:(g==f)=false:=beq_eq_false_iff_ne.mpr h
    simp only[List.lookup,hb,if_neg h]
 | (k,x)::r=>by
   have ih:=lookup_putF f g v r
   rw[show putF f v ((k,x)::r)=(if k=f then (k,v)::r else (k,x)::putF f v r) from rfl]
   by_cases hk:k=f
   ·rw[if_pos hk]
    by_cases h:g=k
    ·have hb:(g==k)=true:=beq_iff_eq.mpr h
     simp only[List.lookup,hb,if_pos (h.trans hk)]
    ·have hb:(g==k)=false:=beq_eq_false_iff_ne.mpr h
     simp only[List.lookup,hb,if_neg (fun e:g=f=>h (e.trans hk.symm))]
   ·rw[if_neg hk]
    by_cases h:g=k
    ·have hb:(g==k)=true:=beq_iff_eq.mpr h
     simp only[List.lookup,hb,if_neg (fun e:g=f=>hk (h.symm.trans e))]
    ·have hb:(g==k)=false:=beq_eq_false_iff_ne.mpr h
     simp only[List.lookup,hb]
     exact ih
theorem keys_putF (f:Str) (v:V):∀ fs:List (Str×V),f∈(putF f v fs).map (·.1)∧∀ g,g∈fs.map (·.1)->g∈(putF f v fs).map (·.1)
 |[]=>⟨by simp[putF],fun g h=>by simp at h⟩
 | (k,x)::r=>by
   obtain⟨i1,i2⟩:=keys_putF f v r
   rw[show putF f v ((k,x)::r)=(if k=f then (k,v)::r else (k,x)::putF f v r) from rfl]
   by_cases hk:k=f
   ·rw[if_pos hk]
    subst hk
    exact⟨by simp,fun g h=>by simpa using h⟩
   ·rw[if_neg hk]
    refine⟨?_,fun g h=>?_⟩
    ·rw[List.map_cons]
     exact List.mem_cons_of_mem _ i1
    ·rw[List.map_cons] at h ⊢
     rcases List.mem_cons.mp h with e | e
     ·exact List.mem_cons.mpr (.inl e)
     ·exact List.mem_cons_of_mem _ (i2 g e)
theorem length_putF (f:Str) (v:V):∀ fs:List (Str×V),(putF f v fs).length≤fs.length + 1
 |[]=>by simp[putF]
 |(k,x)::r=>by
   have ih:=length_putF f v r
   rw[show putF f v ((k,x)::r)=(if k=f then (k,v)::r else (k,x)::putF f v r) from rfl]
   by_cases hk:k=f
   ·rw[if_pos hk,List.length_cons,List.length_cons];omega
   ·rw[if_neg hk,List.length_cons,List.length_cons];omega
theorem RelO.some_of{v:V}{o:Option Value}(r:RelO (some v) o):∃u,o=some u∧RelV v u:=by
 cases o with
 |none=>exact (show False from r).elim
 |some u=>exact⟨u,rfl,r⟩
theorem RelO.none_of{o:Option Value}(r:RelO none o):o=none:=by
 cases o with
 |none=>rfl
 |some u=>exact (show False from r).elim
theorem handed_of{v:V}{u:Value}(r:RelV v u):PySem.W.handedIn u=true:=by
 cases v with
 |non=>cases (show u=Value.none from r);rfl
 |bl b=>cases (show u=Value.bool b from r);rfl
 |int i=>obtain⟨t,e⟩:=(show ∃t,u=Value.int i t from r);cases e;rfl
 |str x=>obtain⟨t,e⟩:=(show ∃t,u=Value.str x t from r);cases e;rfl
 |byt b=>obtain⟨t,e⟩:=(show ∃t,u=Value.bytes b t from r);cases e;rfl
 |flt b=>obtain⟨t,e⟩:=(show ∃t,u=Value.float b t from r);cases e;rfl
 |ref a=>cases (show u=Value.ref a from r);rfl
 |ty n=>cases (show u=Value.type n from r);rfl
section
variable{P:Program}{w:World}{H H':Hp}{h h':Heap}{a C dx:Addr}{fs fs':List (Str×V)}
theorem ins_get(hok:HOk P w H h)(e:H a=some (.ins C dx fs)):∃mA,ObjM h a dx C mA∧(∀f,RelO (fs.lookup f) (mA f))∧PySem.Within mA (fs.map (·.1))∧fs.length≤1000∧H dx=some (.own a):=by
 obtain⟨d,z,ne,ob,mA,n,r,q⟩:=(show ObjOk P w H h a (.ins C dx fs) from hok a _ e)
 exact⟨mA,⟨ob,n,ne⟩,r,q,z,d⟩
end
structure Cls(K:PySem.W.Frag)(C:Addr):Prop where
 pg:PySem.W.plainGet K C Str.empty=true
 hd:PySem.W.hasDictIn K C=true
 po:PySem.W.plainOver K C=true
 sa:PySem.W.findIn K (.ref C) "__setattr__"=some (some (.builtin "object.__setattr__"))
theorem Cls.get{K:PySem.W.Frag}{C:Addr}(c:Cls K C)(f:Str):PySem.W.plainGet K C f=true:=c.pg
def NoAttr(K:PySem.W.Frag)(C:Addr)(f:Str):Prop:=PySem.W.findIn K (.ref C) f=some none
theorem NoAttr.taker{K:PySem.W.Frag}{C:Addr}{f:Str}(n:NoAttr K C f):PySem.W.takerIn K C f=some none:=by
 unfold PySem.W.takerIn
 rw[show PySem.W.findIn K (.ref C) f=some none from n]
 rfl
structure Meth(K:PySem.W.Frag)(C:Addr)(m:Str)(f:Addr):Prop where
 at_:PySem.W.findIn K (.ref C) m=some (some (.ref f))
 fn:PySem.W.isFn K (.ref f)=true
 kp:PySem.W.keepIn K (.ref f)=true
section
variable{X:Cx}{pins:List (Addr×Obj)}{σ:St}{H:Hp}{s:Shared}{a C dx:Addr}{fs:List (Str×V)}{f:Str}{v:V}{A:Around}{E:Value->Shared->Prop}
theorem getattr_ok{b:Bool}{Q:Value->Shared->Prop}(I:Inv X pins σ H s)(e:H a=some (.ins C dx fs))(c:Cls X.K C)(n:NoAttr X.K C f)(l:fs.lookup f=some v)
  (h:∀u s',Inv X pins σ H s'->RelV v u->Q u s'):wpAny (model X.prog X.w) A (getAttr (.ref a) f b) Q E s:=by
 obtain⟨mA,O,r,_,_,_⟩:=ins_get I.hok e
 obtain⟨u,hu,ru⟩:=RelO.some_of (v:=v) (o:=mA f) (by rw[←l];exact r f)
 exact get_map I.kIn O (c.get f) c.hd n hu (handed_of ru) (h u _ (I.tok _) ru)
theorem getmeth_ok{m:Str}{g:Addr}{pl:Sem Bool}{Q:Value×List Value->Shared->Prop}(I:Inv X pins σ H s)(e:H a=some (.ins C dx fs))(c:Cls X.K C)(k:Meth X.K C m g)(l:fs.lookup m=none)
  (h:Q (.ref g,[.ref a]) s):wpAny (model X.prog X.w) A (getMethod (.ref a) m pl) Q E s:=by
 obtain⟨mA,O,r,_,_,_⟩:=ins_get I.hok e
 have hn:mA m=none:=RelO.none_of (by rw[←l];exact r m)
 exact get_meth I.kIn O (c.get m) k.at_ k.fn hn h
theorem setattr_ok {y:V}{u:Value}{Q:Unit->Shared->Prop} (I:Inv X pins σ H s) (e:H a=some (.ins C dx fs)) (c:Cls X.K C) (n:NoAttr X.K C f) (hl:fs.length<1000) (ry:RelV y u)
  (h:∀s',Inv X pins σ (upd H a (.ins C dx (putF f y fs))) s'->Q () s'):wpAny (model X.prog X.w) A (setAttr (.ref a) f u) Q E s:=by
 obtain⟨mA,O,r,wi,_,ho⟩:=ins_get I.hok e
 have hz:(fs.map (·.1)).length≤sizeLine:=by rw[List.length_map,sizeLine_eq];omega
 refine set_map I.kIn O c.sa c.po n.taker c.hd wi hz fun h' O' sb=>h _ ?_
 have hd:∃o,h'.get? dx=some o:=let ⟨o,_,_,e',_⟩:=O'.ns;⟨o,e'⟩
 refine I.write (x:=a) (e:=dx) (by rw[e];exact True.intro) (.inr ho) (fun b q hb z=>(sb.2 b hb).trans z) hd ?_
 refine⟨by rw[upd_ne O.ne];exact ho,?_,O.ne,O'.obj,_,O'.ns,fun g=>?_,fun g hg=>?_⟩
 ·have:=length_putF f y fs;omega
 ·show RelO ((putF f y fs).lookup g) (if g=f then some u else mA g)
  rw[lookup_putF]
  by_cases q:g=f
  ·rw[if_pos q,if_pos q];exact ry
  ·rw[if_neg q,if_neg q];exact r g
 ·by_cases q:g=f
  ·rw[q];exact (keys_putF f y fs).1
  ·refine (keys_putF f y fs).2 g (wi g fun z=>hg ?_)
   show (if g=f then some u else mA g)=none
   rw[if_neg q];exact z
theorem Inv.made(I:Inv X pins σ H s):Inv X pins σ (upd (upd H s.heap.objs.size (.own (s.heap.objs.size+1))) (s.heap.objs.size+1) (.ins C s.heap.objs.size []))
  { s with heap:=(s.heap.push PySem.W.emptyDict).push (PySem.W.instObj C s.heap.objs.size) }:=by
 have e1:(s.heap.push PySem.W.emptyDict).get? s.heap.objs.size=some PySem.W.emptyDict:=Heap.get?_push_size s.heap rfl
 have e2:((s.heap.push PySem.W.emptyDict).push (PySem.W.instObj C s.heap.objs.size)).get? (s.heap.objs.size+1)=some (PySem.W.instObj C s.heap.objs.size):=by
  have:=Heap.get?_push_size (s.heap.push PySem.W.emptyDict) (o:=PySem.W.instObj C s.heap.objs.size) rfl
  rwa [Heap.size_push] at this
 have e3:(s.heap.push PySem.W.emptyDict).Ns s.heap.objs.size (fun _=>none):=⟨PySem.W.emptyDict,#[],_,e1,rfl,(fun e he=>absurd he (by simp)),fun _=>rfl⟩
 have I1:=I.laid (a:=s.heap.objs.size) (o:=.own (s.heap.objs.size+1)) (h':=s.heap.push PySem.W.emptyDict) (t':=s.toks) (fun b u q=>Heap.get?_push_of_some _ q) (Nat.le_refl _) ⟨_,e1⟩
 refine I1.laid (a:=s.heap.objs.size+1) (o:=.ins C s.heap.objs.size []) (t':=s.toks) (fun b u q=>Heap.get?_push_of_some _ q) (Nat.le_of_eq (Heap.size_push _ _)) ?_
 have ne:s.heap.objs.size≠s.heap.objs.size+1:=Nat.ne_of_lt (Nat.lt_succ_self _)
 refine⟨by rw[upd_ne ne,upd_same],Nat.zero_le _,ne,e2,fun _=>none,(Heap.Ns1.of_empty e3).at fun o q=>Heap.get?_push_of_some _ q,fun _=>True.intro,fun y hy=>absurd rfl hy⟩
theorem attr_of{prog:Program}{w:World}{env:Env}{e:Expr}{f:Str}{pos:Pos}{s:Shared}{Q:Value->Shared->Prop}(hb:attributeBase e f env (eval e env)=eval e env)
  (h:wpAny (model prog w) A (eval e env) (fun o s₁=>wpAny (model prog w) A (getAttr o f true) Q E s₁) E s):wpAny (model prog w) A (eval (.Attribute e f pos) env) Q E s:=
 Attribute_any_ h (by rw[arm_eval_Attribute,hb])
end
def tFld(K:PySem.W.Frag)(ta:TE)(f:Str):TE:=fun σ H Q=>ta σ H fun x H1=>∃a C dx fs v,x=.ref a∧H1 a=some (.ins C dx fs)∧Cls K C∧NoAttr K C f∧fs.lookup f=some v∧Q v H1
def sFld(K:PySem.W.Frag)(ta tv:TE)(f:Str):TS:=fun D σ H=>tv σ H fun y H1=>ta σ H1 fun x H2=>∃a C dx fs,x=.ref a∧H2 a=some (.ins C dx fs)∧Cls K C∧NoAttr K C f∧fs.length<1000 ∧
 D.nx σ (upd H2 a (.ins C dx (putF f y fs)))
section
variable{X:Cx}{o e value:Expr}{f:Str}{pos pos' tpos:Pos}{ta tv:TE}
theorem pe_fld(he:PE X e ta)(hb:attributeBase e f X.env (eval e X.env)=eval e X.env):PE X (.Attribute e f pos) (tFld X.K ta f):=by
 intro pins s σ H Q I h
 refine attr_of hb (thn (he pins s σ H _ I h) fun u s1 ⟨x,H1,I1,rx,a,C,dx,fs,v,ex,ea,c,n,l,q⟩=>?_)
 subst ex
 obtain rfl:u=Value.ref a:=rx
 exact getattr_ok I1 ea c n l fun u' s2 I2 ru=>⟨v,H1,I2,ru,q⟩
theorem ps_fld(ha:PE X o ta)(hv:PE X value tv)(hs:swapsWith value (some (.Attribute o f pos')) pos.line X.env=pure false):PS X (.Assign [.Attribute o f pos'] value pos) (sFld X.K ta tv f):=by
 intro pins s σ H D I h
 refine plainObj_wpAny_Assign_Attribute (thn (hv pins s σ H _ I h) fun u s1 ⟨y,H1,I1,ry,q⟩=>thn (ha pins s1 σ H1 _ I1 q) fun ov s2 ⟨x,H2,I2,rx,a,C,dx,fs,ex,ea,c,n,l,q2⟩=>?_) hs
 subst ex
 obtain rfl:ov=Value.ref a:=rx
 exact setattr_ok I2 ea c n l ry fun s3 I3=>⟨σ,_,I3,q2⟩
theorem methcall_of {pl:Sem Bool}{m:Str}{apos:Pos}{args:List Expr}{pins:List (Addr×Obj)}{s:Shared}{σ:St}{H:Hp}{Q:Value->Shared->Prop}{te:TE} (he:PE X e te) (I:Inv X pins σ H s)
  (h:te σ H fun x H1=>∃a C dx fs g,x=.ref a∧H1 a=some (.ins C dx fs)∧Cls X.K C∧Meth X.K C m g∧fs.lookup m=none ∧
    ∀s1,Inv X pins σ H1 s1->wpAny (model X.prog X.w) X.A (callWith pos (.ref g) [.ref a] (backTo pos (starEach args X.env)) (backToKw pos (keywordEach [] X.env))) Q X.xe s1)
  (ht:eval (.Call (.Attribute e m apos) args [] pos) X.env=(do
    let ov ←eval e X.env
    standAt apos.atName
    let (f,first) ←holding [ov] (getMethod ov m pl)
    callWith pos f first (backTo pos (starEach args X.env)) (backToKw pos (keywordEach [] X.env)))) :
  wpAny (model X.prog X.w) X.A (eval (.Call (.Attribute e m apos) args [] pos) X.env) Q X.xe s:=by
 refine PySem.W.methodCall_KW (pl:=pl) (thn (he pins s σ H _ I h) fun u s1 ⟨x,H1,I1,rx,a,C,dx,fs,g,ex,ea,c,k,l,q⟩=>?_) ht
 subst ex
 obtain rfl:u=Value.ref a:=rx
 exact getmeth_ok I1 ea c k l (q s1 I1)
end
section
variable{X:Cx}{pins:List (Addr×Obj)}{σ:St}{H:Hp}{s:Shared}{A:Around}{E:Value->Shared->Prop}{Q:Value->Shared->Prop}{c:Value}{b:Bool}
inductive TyOf (K:PySem.W.Frag) (H:Hp):V->Value->Prop where
 |non:TyOf K H .non (.type "NoneType")
 |bl (x:Bool):TyOf K H (.bl x) (.type "bool")
 |int (i:Int):TyOf K H (.int i) (.type "int")
 |str (x:Str):TyOf K H (.str x) (.type "str")
 |flt (x:UInt64):TyOf K H (.flt x) (.type "float")
 |lst {a:Addr}{xs:List V} (e:H a=some (.lst xs)):TyOf K H (.ref a) (.type "list")
 |frz {a:Addr}{o:Obj}{xs:List V} (e:H a=some (.frz o (.lst xs))):TyOf K H (.ref a) (.type "list")
 |tup {a:Addr}{xs:List V} (e:H a=some (.tup xs)):TyOf K H (.ref a) (.type "tuple")
 |dK {a:Addr}{kvs:List (Key×V)} (e:H a=some (.dK kvs)):TyOf K H (.ref a) (.type "dict")
 |dT {a:Addr}{kvs:List (List Key×V)} (e:H a=some (.dT kvs)):TyOf K H (.ref a) (.type "dict")
 |ins {a C dx:Addr}{fs:List (Str×V)} (e:H a=some (.ins C dx fs)) (cl:Cls K C) (ha:PySem.W.findIn K (.ref C) "__class__"=some (some (.builtin "object.__class__")))
   (hn:PySem.W.specialIn K (.builtin "object.__class__") "__get__"=some (some (.builtin "getset_descriptor.__get__"))) (htk:PySem.W.takesIn K (.builtin "object.__class__")=some true)
   (hm:PySem.W.mroIn K C (.type "object")=some true):TyOf K H (.ref a) (.ref C)
theorem isinst_ok {x:V}{u t:Value} (I:Inv X pins σ H s) (rx:RelV x u) (ty:TyOf X.K H x t) (e:PySem.W.kitOne X.K t c=some b) (h:∀ tk,Q (.bool b) { s with toks:=tk }) :
  wpAny (model X.prog X.w) A (call (.builtin "isinstance") [u,c]) Q E s:=by
 cases ty with
 |non=>cases (show u=Value.none from rx);exact PySem.W.kia_one PySem.W.kitx_none I.kIn True.intro e (fun z=>nomatch z) h
 |bl y=>cases (show u=Value.bool y from rx);exact PySem.W.kia_one PySem.W.kitx_bool I.kIn True.intro e (fun z=>nomatch z) h
 |int i=>obtain⟨t,q⟩:=(show ∃t,u=Value.int i t from rx);cases q;exact PySem.W.kia_one PySem.W.kitx_int I.kIn True.intro e (fun z=>nomatch z) h
 |str y=>obtain⟨t,q⟩:=(show ∃t,u=Value.str y t from rx);cases q;exact PySem.W.kia_one PySem.W.kitx_str I.kIn True.intro e (fun z=>nomatch z) h
 |flt y=>obtain⟨t,q⟩:=(show ∃t,u=Value.float y t from rx);cases q;exact PySem.W.kia_one PySem.W.kitx_float I.kIn True.intro e (fun z=>nomatch z) h
 | @lst a xs ea=>
   cases (show u=Value.ref a from rx)
   obtain⟨_,_,n,_,h1⟩:=(show ObjOk X.prog X.w H s.heap a (.lst xs) from I.hok a _ ea)
   exact PySem.W.kia_one PySem.W.kitx_list I.kIn ⟨_,h1,rfl⟩ e (fun z=>nomatch z) h
 | @frz a ob xs ea=>
   cases (show u=Value.ref a from rx)
   obtain⟨_,_,_,n,_,h1⟩:=(show ObjOk X.prog X.w H s.heap a (.frz ob (.lst xs)) from I.hok a _ ea)
   exact PySem.W.kia_one PySem.W.kitx_list I.kIn ⟨_,h1,rfl⟩ e (fun z=>nomatch z) h
 | @tup a xs ea=>
   cases (show u=Value.ref a from rx)
   obtain⟨_,_,_,p⟩:=(show ObjOk X.prog X.w H s.heap a (.tup xs) from I.hok a _ ea)
   obtain⟨o,h1,h2,_⟩:=p
   exact PySem.W.kia_one PySem.W.kitx_tuple I.kIn ⟨o,h1,h2⟩ e (fun z=>nomatch z) h
 | @dK a kvs ea=>
   cases (show u=Value.ref a from rx)
   obtain⟨_,_,vs,_,p⟩:=(show ObjOk X.prog X.w H s.heap a (.dK kvs) from I.hok a _ ea)
   obtain⟨o,es,ep,h1,h2,_⟩:=p
   exact PySem.W.kia_one PySem.W.kitx_dict I.kIn ⟨o,h1,h2.1⟩ e (fun z=>nomatch z) h
 | @dT a kvs ea=>
   cases (show u=Value.ref a from rx)
   obtain⟨_,_,xs,_,o,es,ep,h1,h2,_⟩:=(show ObjOk X.prog X.w H s.heap a (.dT kvs) from I.hok a _ ea)
   exact PySem.W.kia_one PySem.W.kitx_dict I.kIn ⟨o,h1,h2.1⟩ e (fun z=>nomatch z) h
 | @ins a C dx fs ea cl ha hn htk hm=>
   cases (show u=Value.ref a from rx)
   obtain⟨mA,O,_⟩:=ins_get I.hok ea
   obtain⟨od,J,_⟩:=O.look
   exact PySem.W.kia_one (PySem.W.kitx_own (cl.get _) cl.hd ha hn htk hm) I.kIn J e (fun z=>nomatch z) h
end
open PySem PySem.Spec PyProof.Rows
structure Room(k:Nat)(A:Around):Prop where
 hd:A.handled=none
 dp:A.depth+3*k+5<recursionLimit
 un:A.units+16*k+200<cLine
 gd:A.guards=some []
theorem Room.mono{j k:Nat}{A:Around}(r:Room k A)(h:j≤k):Room j A:=⟨r.hd,by have:=r.dp;omega,by have:=r.un;omega,r.gd⟩
theorem Room.deeper{k:Nat}{A:Around}(r:Room (k+1) A)(env:Env):Room k (A.deeper env):=
 ⟨r.hd,by have:=r.dp;show A.depth+1+3*k+5<_;omega,by have:=r.un;show A.units+3+16*k+200<_;omega,r.gd⟩
theorem Room.in1{k:Nat}{A:Around}(r:Room (k+1) A):Room k A.in1:=
 ⟨r.hd,by have:=r.dp;show A.depth+3*k+5<_;omega,by have:=r.un;show A.units+1+16*k+200<_;omega,r.gd⟩
theorem make_depth{A:Around}{C:Addr}{us:List Value}{kw:List (Str×Value)}:(A.under (.builtin "type.__call__" ⟨.ref C::us,kw⟩)).depth=A.depth+1:=by
 first | rfl | simp[Around.under,Code.weight,Code.isCreation,Code.isGuard,Code.isCaller,Code.frames,Code.isFrame,guardIds]
theorem make_units{A:Around}{C:Addr}{us:List Value}{kw:List (Str×Value)}:(A.under (.builtin "type.__call__" ⟨.ref C::us,kw⟩)).units=A.units+1:=by
 first | rfl | simp[Around.under,Code.cUnits,Code.frames,Code.isFrame]
theorem uD{A:Around}{C:Addr}{us:List Value}{kw:List (Str×Value)}:(A.under (.builtin "type.__call__" ⟨.ref C::us,kw⟩)).guards=A.guards:=by
 simp[Around.under,Code.guards,Code.isGuard,guardIds,pushGuards]
theorem Room.make{k:Nat}{A:Around}(r:Room (k+1) A)(C:Addr)(us:List Value)(kw:List (Str×Value)):Room k (A.under (.builtin "type.__call__" ⟨.ref C::us,kw⟩)):=
 ⟨r.hd,by have:=r.dp;rw[make_depth];omega,by have:=r.un;rw[make_units];omega,by first | (rw[uD];exact r.gd) | exact r.gd⟩
theorem Room.depth{k:Nat}{A:Around}(r:Room k A):A.depth<recursionLimit:=by have:=r.dp;omega
theorem Room.units{k:Nat}{A:Around}(r:Room k A):A.units+64<cLine:=by have:=r.un;omega
def tNil:TA:=fun _ H Q=>Q [] H
def tCons(ta:TE)(tr:TA):TA:=fun σ H Q=>ta σ H fun x H1=>tr σ H1 fun xs H2=>Q (x::xs) H2
section
variable{X:Cx}{e:Expr}{es:List Expr}{te:TE}{t:TA}{pos:Pos}
theorem pa_nil:PA X [] tNil:=fun _ _ _ _ H Q I h=>Calls.spliced_nil ⟨[],H,I,.nil,h⟩
theorem pa_cons(ha:PE X e te)(hr:PA X es t)(hs:starEach (e::es) X.env=(false,eval e X.env)::starEach es X.env:=by rfl):PA X (e::es) (tCons te t):=by
 intro pos pins s σ H Q I h
 rw[hs]
 show wpAny _ _ (spliced ((false,eval e X.env)::backTo pos (starEach es X.env))) _ _ s
 refine Calls.spliced_cons (thn (ha pins s σ H _ I h) fun u s1 ⟨x,H1,I1,r1,q1⟩=>?_)
 exact thn (hr pos pins s1 σ H1 _ I1 q1) fun us s2 ⟨xs,H2,I2,r2,q2⟩=>⟨x::xs,H2,I2,.cons r1 r2,q2⟩
def tTup(t:TA):TE:=fun σ H Q=>t σ H fun xs H1=>xs.length≤sizeLine∧∀p,H1 p=none->Q (.ref p) (upd H1 p (.tup xs))
def tLst(t:TA):TE:=fun σ H Q=>t σ H fun xs H1=>xs.length≤sizeLine∧∀p,H1 p=none->Q (.ref p) (upd H1 p (.lst xs))
theorem pe_tup{x1}(h:PA X es t):PE X (.Tuple es x1 pos) (tTup t):=by
 intro pins s σ H Q I hq
 refine wpAny_Tuple_spliced (thn (h pos pins s σ H _ I hq) fun us s1 ⟨xs,H1,I1,r,z,q⟩=>⟨by rw[←r.length];exact z,?_⟩)
 have hf:H1 s1.heap.objs.size=none:=I1.hok.fresh (Nat.le_refl _)
 refine⟨.ref s1.heap.objs.size,upd H1 s1.heap.objs.size (.tup xs),I1.laid (t':=s1.toks) (fun b u e=>Heap.get?_push_of_some _ e) (Nat.le_refl _) ?_,rfl,q _ hf⟩
 exact⟨z,us,r,⟨_,Heap.get?_push_size _ rfl,rfl,_,rfl⟩⟩
theorem pe_lst(h:PA X es t):PE X (.List es pos) (tLst t):=by
 intro pins s σ H Q I hq
 refine wpAny_List_spliced (thn (h pos pins s σ H _ I hq) fun us s1 ⟨xs,H1,I1,r,z,q⟩=>⟨by rw[←r.length];exact z,?_⟩)
 have hf:H1 s1.heap.objs.size=none:=I1.hok.fresh (Nat.le_refl _)
 refine⟨.ref s1.heap.objs.size,upd H1 s1.heap.objs.size (.lst xs),I1.laid (t':=s1.toks) (fun b u e=>Heap.get?_push_of_some _ e) (Nat.le_refl _) ?_,rfl,q _ hf⟩
 exact⟨z,us,0,r,Heap.get?_push_size _ rfl⟩
end
abbrev Sp:=List V->Hp->VK->XK->Prop
abbrev CXT:=List Env->Hp->Shared->XK->Value->Shared->Prop
structure Env0(P:Program)(w:World)(K:PySem.W.Frag)(mg:Str->Option Value)(base:Heap)(A:Around)(outer:List Env)(s:Shared)(H:Hp):Prop where
 frames:A.frames=some outer
 mod:Mod K mg base
 bs:∀b o,base.get? b=some o->s.heap.get? b=some o∧H b=none
 bsz:base.objs.size≤s.heap.objs.size
 funs:s.heap.FunFrames base outer
 frf:∀b∈frs outer,H b=none
 hok:HOk P w H s.heap
 bare:AllBare s.gens
def CE(outer:List Env)(P:Program)(w:World)(H:Hp)(s:Shared)(Q:VK)(u:Value)(s':Shared):Prop:=
 ∃v H',s'.os=s.os∧AllBare s'.gens∧Un (frs outer) [] H H' s.heap s'.heap∧HOk P w H' s'.heap∧RelV v u∧Q v H'
def CR(CX:CXT)(outer:List Env)(P:Program)(w:World)(H:Hp)(s:Shared)(Q:VK)(E:XK)(r:Result)(s':Shared):Prop:=
 match r with
 |.ok (.ret u)=>CE outer P w H s Q u s'
 |.ok _=>False
 |.error e=>CX outer H s E e s'
structure FnOk(P:Program)(w:World)(K:PySem.W.Frag)(mg:Str->Option Value)(base:Heap)(CX:CXT)(k:Nat)(f:Addr)(fd:FuncData)(ps:List Str)(sp:Sp):Prop where
 len:∀vs H Q E,sp vs H Q E->vs.length=ps.length
 run:∀(A:Around) (outer:List Env) (s:Shared) (H:Hp) (args:Args) (us:List Value) (vs:List V) (Q:VK) (E:XK),Room k A->Env0 P w K mg base A outer s H->BindsTo s fd args (ps.zip us)->Vals vs us->sp vs H Q E->
  codeAny (model P w) A (.call (.ref f) args) (CR CX outer P w H s Q E) s
theorem FnOk.mono{P:Program}{w:World}{K:PySem.W.Frag}{mg:Str->Option Value}{base:Heap}{CX:CXT}{j k:Nat}{f:Addr}{fd:FuncData}{ps:List Str}{sp:Sp}(F:FnOk P w K mg base CX j f fd ps sp)(h:j≤k) :
  FnOk P w K mg base CX k f fd ps sp:=⟨F.len,fun A outer s H args us vs Q E hr=>F.run A outer s H args us vs Q E (hr.mono h)⟩
theorem FnOk.imp{P:Program}{w:World}{K:PySem.W.Frag}{mg:Str->Option Value}{base:Heap}{CX:CXT}{k:Nat}{f:Addr}{fd:FuncData}{ps:List Str}{sp sp':Sp}(F:FnOk P w K mg base CX k f fd ps sp)
  (h:∀vs H Q E,sp' vs H Q E->sp vs H Q E):FnOk P w K mg base CX k f fd ps sp':=
 ⟨fun vs H Q E q=>F.len vs H Q E (h _ _ _ _ q),fun A outer s H args us vs Q E hr he hb hv hs=>F.run A outer s H args us vs Q E hr he hb hv (h _ _ _ _ hs)⟩
theorem Env0.make{P:Program}{w:World}{K:PySem.W.Frag}{mg:Str->Option Value}{base:Heap}{A:Around}{outer:List Env}{s:Shared}{H:Hp}(e:Env0 P w K mg base A outer s H)(C:Addr)(us:List Value)(kw:List (Str×Value)) :
  Env0 P w K mg base (A.under (.builtin "type.__call__" ⟨.ref C::us,kw⟩)) outer s H:=⟨by first | exact e.frames | (simpa[Around.under,Code.envs,Code.isFrame,pushEnvs] using e.frames),e.mod,e.bs,e.bsz,e.funs,e.frf,e.hok,e.bare⟩
section
variable{X:Cx}{pins:List (Addr×Obj)}{σ:St}{H:Hp}{s s':Shared}
theorem Inv.env0(I:Inv X pins σ H s):Env0 X.prog X.w X.K X.mg X.base X.A X.stack s H:=
 ⟨I.ok.frames,I.ok.mod,I.bs,Nat.le_trans I.ok.bsz I.sz,I.stack,I.stkFree,I.hok,I.bare⟩
theorem Inv.after{Q:VK}{u:Value}(I:Inv X pins σ H s)(h:CE X.stack X.prog X.w H s Q u s'):EP X pins σ Q u s':=by
 obtain⟨v,H',os,bare,un,hok,r,q⟩:=h
 obtain⟨hh,g,d,t,os'⟩:=s'
 obtain rfl:os'=s.os:=os
 exact⟨v,H',I.call (h':=hh) (g':=g) (d':=d) (t':=t) (ch:=[]) un hok bare (fun b z=>absurd z (by simp)),r,q⟩
end
def tCall(sp:Sp)(dvs:List V)(E:XK)(t:TA):TE:=fun σ H Q=>t σ H fun vs H1=>sp (vs++dvs) H1 Q E
def tMeth(C:Addr)(m:Str)(sp:Sp)(dvs:List V)(E:XK)(ta:TE)(t:TA):TE:=fun σ H Q=>ta σ H fun x H1=>∃a dx fs,x=.ref a∧H1 a=some (.ins C dx fs)∧fs.lookup m=none ∧
 t σ H1 fun vs H2=>sp (x::(vs++dvs)) H2 Q E
def tMake(C:Addr)(sp:Sp)(dvs:List V)(E:XK)(t:TA):TE:=fun σ H Q=>t σ H fun vs H1=>∀x dx,H1 x=none->H1 dx=none->dx≠x->
 sp (.ref x::(vs++dvs)) (upd (upd H1 dx (.own x)) x (.ins C dx [])) (fun v H2=>v=.non∧Q (.ref x) H2) E
def Binds(K:PySem.W.Frag)(fd:FuncData)(ps:List Str)(ds:List Value):Prop:=
 ∀(s:Shared) (us:List Value),K.In s.heap->(us++ds).length=ps.length->BindsTo s fd ⟨us,[]⟩ (ps.zip (us++ds))
theorem Binds.all{K:PySem.W.Frag}{fd:FuncData}{ps:List Str}(h:∀us:List Value,us.length=ps.length->bindArgs fd ⟨us,[]⟩=pure (ps.zip us)):Binds K fd ps []:=fun s us _ hl=>by
 rw[List.append_nil] at hl ⊢
 exact .of_eq (h us hl)
def Passes(CX:CXT)(X:Cx)(E:XK):Prop:=∀(pins:List (Addr×Obj)) (σ:St) (H:Hp) (s:Shared) (e:Value) (s':Shared),Inv X pins σ H s->CX X.stack H s E e s'->X.xe e s'
section
variable{X:Cx}{CX:CXT}{k:Nat}{f C:Addr}{fd:FuncData}{ps:List Str}{sp:Sp}{dvs:List V}{ds:List Value}{E:XK}{x m:Str}{p pos apos:Pos}{e o:Expr}{es:List Expr}{ta:TE}{t:TA}
theorem run_fn {pins:List (Addr×Obj)}{σ:St}{H:Hp}{s:Shared}{Q:VK}{us:List Value}{vs:List V} (F:FnOk X.prog X.w X.K X.mg X.base CX k f fd ps sp) (hr:Room k X.A) (hb:Binds X.K fd ps ds) (hd:Vals dvs ds) (hx:Passes CX X E)
  (I:Inv X pins σ H s) (r:Vals vs us) (h:sp (vs++dvs) H Q E):wpAny (model X.prog X.w) X.A (call (.ref f) us) (EP X pins σ Q) X.xe s:=by
 have r2:Vals (vs++dvs) (us++ds):=r.append hd
 have hl:(us++ds).length=ps.length:=by rw[←r2.length];exact F.len _ _ _ _ h
 refine wpAny_call (codeAny_mono (F.run X.A X.stack s H ⟨us,[]⟩ (us++ds) (vs++dvs) Q E hr I.env0 (hb s us I.kIn hl) r2 h) fun r s' hq=>?_)
 cases r with
 |error e=>exact hx pins σ H s e s' I hq
 |ok fl=>
   cases fl with
   |ret u=>exact I.after hq
   |next=>exact False.elim hq
   |brk=>exact False.elim hq
   |cont=>exact False.elim hq
theorem pe_call(F:FnOk X.prog X.w X.K X.mg X.base CX k f fd ps sp)(hr:Room k X.A)(hg:Gl X x)(hm:X.mg x=some (.ref f))(hk:PySem.W.keepIn X.K (.ref f)=true)(hb:Binds X.K fd ps ds)(hd:Vals dvs ds)(hx:Passes CX X E)
  (ha:PA X (e::es) t) (hdb:(x==("__debug__":Str))=false:=by decide) (he:starEach (e::es) X.env=(false,eval e X.env)::starEach es X.env:=by rfl) (hpl:(backTo pos (starEach es X.env)).any (·.1)=false:=by rfl) :
  PE X (.Call (.Name x p) (e::es) [] pos) (tCall sp dvs E t):=by
 intro pins s σ H Q I h
 refine wpAny_Call_Name_kw (ld_glob I hg hm ?_ hdb)
 refine PySem.W.callWith_K (h₀:=X.base) I.ok.mod.kin hk (thn (ha pos pins s σ H _ I h) fun us s1 ⟨vs,H1,I1,r,q⟩=>⟨I1.kIn,?_⟩) he hpl
 exact run_fn F hr hb hd hx I1 r q
theorem pe_meth {pl:Sem Bool} (he:PE X o ta) (c:Cls X.K C) (hm:Meth X.K C m f) (F:FnOk X.prog X.w X.K X.mg X.base CX k f fd ps sp) (hr:Room k X.A) (hb:Binds X.K fd ps ds) (hd:Vals dvs ds) (hx:Passes CX X E) (ha:PA X (e::es) t)
  (hst:starEach (e::es) X.env=(false,eval e X.env)::starEach es X.env:=by rfl) (hpl:(backTo pos (starEach es X.env)).any (·.1)=false:=by rfl)
  (ht:eval (.Call (.Attribute o m apos) (e::es) [] pos) X.env=(do
    let ov ←eval o X.env
    standAt apos.atName
    let (f,first) ←holding [ov] (getMethod ov m pl)
    callWith pos f first (backTo pos (starEach (e::es) X.env)) (backToKw pos (keywordEach [] X.env))):=by rfl) :
  PE X (.Call (.Attribute o m apos) (e::es) [] pos) (tMeth C m sp dvs E ta t):=by
 intro pins s σ H Q I h
 refine PySem.W.methodCall_KW (pl:=pl) (thn (he pins s σ H _ I h) fun u s1 ⟨x,H1,I1,rx,a,dx,fs,ex,ea,l,q⟩=>?_) ht
 subst ex
 obtain rfl:u=Value.ref a:=rx
 refine getmeth_ok I1 ea c hm l ?_
 refine PySem.W.callWith_K (first:=[.ref a]) (h₀:=X.base) I.ok.mod.kin hm.kp (thn (ha pos pins s1 σ H1 _ I1 q) fun us s2 ⟨vs,H2,I2,r,q2⟩=>⟨I2.kIn,?_⟩) hst hpl
 exact run_fn (us:=.ref a::us) (vs:=.ref a::vs) F hr hb hd hx I2 (.cons rfl r) q2
structure Mk(K:PySem.W.Frag)(C f:Addr):Prop where
 makes:PySem.W.makesIn K C=true
 init:PySem.W.findIn K (.ref C) "__init__"=some (some (.ref f))
 fn:PySem.W.isFn K (.ref f)=true
 kp:PySem.W.keepIn K (.ref C)=true
theorem run_make {pins:List (Addr×Obj)}{σ:St}{H:Hp}{s:Shared}{Q:VK}{us:List Value}{vs:List V} (M:Mk X.K C f) (F:FnOk X.prog X.w X.K X.mg X.base CX k f fd ps sp) (hr:Room (k + 1) X.A) (hb:Binds X.K fd ps ds) (hd:Vals dvs ds)
  (hx:Passes CX X E) (I:Inv X pins σ H s) (r:Vals vs us)
  (h:∀x dx,H x=none->H dx=none->dx≠x->sp (.ref x::(vs++dvs)) (upd (upd H dx (.own x)) x (.ins C dx [])) (fun v H2=>v=.non∧Q (.ref x) H2) E) :
  wpAny (model X.prog X.w) X.A (call (.ref C) us) (EP X pins σ Q) X.xe s:=by
 have hq:=h (s.heap.objs.size+1) s.heap.objs.size (I.hok.fresh (Nat.le_succ _)) (I.hok.fresh (Nat.le_refl _)) (Nat.ne_of_lt (Nat.lt_succ_self _))
 have I2:=Inv.made (C:=C) I
 have r2:Vals (V.ref (s.heap.objs.size+1)::(vs++dvs)) (Value.ref (s.heap.objs.size+1)::(us++ds)):=.cons rfl (r.append hd)
 have hl:(Value.ref (s.heap.objs.size+1)::us++ds).length=ps.length:=by
  have e:=r2.length
  rw[F.len _ _ _ _ hq] at e
  exact e.symm
 refine wpAny_call (make_map (f:=f) I.kIn M.makes M.init (beq_iff_eq.mp M.fn) (codeAny_mono (F.run _ X.stack _ _ ⟨Value.ref (s.heap.objs.size+1)::us,[]⟩ (Value.ref (s.heap.objs.size+1)::(us++ds)) _ _ E (hr.make C us [])
  (I2.env0.make C us []) (hb _ (Value.ref (s.heap.objs.size+1)::us) I2.kIn hl) r2 hq) fun r s' hq'=>?_))
 cases r with
 |error e=>exact hx pins σ _ _ e s' I2 hq'
 | ok fl=>
   cases fl with
   |ret u=>
     obtain⟨v,H',I3,rv,ev,q3⟩:=I2.after hq'
     subst ev
     exact⟨rv,⟨V.ref (s.heap.objs.size+1),H',I3,rfl,q3⟩⟩
   |next=>exact False.elim hq'
   |brk=>exact False.elim hq'
   |cont=>exact False.elim hq'
theorem pe_make(M:Mk X.K C f)(F:FnOk X.prog X.w X.K X.mg X.base CX k f fd ps sp)(hr:Room (k+1) X.A)(hg:Gl X x)(hm:X.mg x=some (.ref C))(hb:Binds X.K fd ps ds)(hd:Vals dvs ds)(hx:Passes CX X E)
  (ha:PA X (e::es) t) (hdb:(x==("__debug__":Str))=false:=by decide) (he:starEach (e::es) X.env=(false,eval e X.env)::starEach es X.env:=by rfl) (hpl:(backTo pos (starEach es X.env)).any (·.1)=false:=by rfl) :
  PE X (.Call (.Name x p) (e::es) [] pos) (tMake C sp dvs E t):=by
 intro pins s σ H Q I h
 refine wpAny_Call_Name_kw (ld_glob I hg hm ?_ hdb)
 refine PySem.W.callWith_K (h₀:=X.base) I.ok.mod.kin M.kp (thn (ha pos pins s σ H _ I h) fun us s1 ⟨vs,H1,I1,r,q⟩=>⟨I1.kIn,?_⟩) he hpl
 exact run_make M F hr hb hd hx I1 r q
end
def PK(X:Cx)(kws:List Keyword)(t:TA):Prop:=
 ∀(pos:Pos) (pins:List (Addr×Obj)) (s:Shared) (σ:St) (H:Hp) (Q:List V->Hp->Prop),Inv X pins σ H s->t σ H Q->wpAny (model X.prog X.w) X.A (evalAll ((backToKw pos (keywordEach kws X.env)).map (·.2))) (AP X pins σ Q) X.xe s
section
variable{X:Cx}{CX:CXT}{k:Nat}{f C:Addr}{fd:FuncData}{ps ks:List Str}{sp:Sp}{E:XK}{x m:Str}{p pos apos kpos:Pos}{e o:Expr}{es:List Expr}{kws:List Keyword}{te ta:TE}{t tk:TA}{nm:Option Str}
theorem pk_nil:PK X [] tNil:=fun _ _ _ _ H Q I h=>wpAny_evalAll_nil ⟨[],H,I,.nil,h⟩
theorem pk_cons(ha:PE X e te)(hr:PK X kws t):PK X (⟨nm,e,kpos⟩::kws) (tCons te t):=by
 intro pos pins s σ H Q I h
 show wpAny _ _ (evalAll ((do let v ←eval e X.env;standAt pos;pure v)::(backToKw pos (keywordEach kws X.env)).map (·.2))) _ _ s
 refine wpAny_evalAll_cons (wpAny_bind (thn (ha pins s σ H _ I h) fun u s1 ⟨x,H1,I1,r1,q1⟩=>wpAny_bind (wpAny_standAt (wpAny_pure ?_))))
 exact thn (hr pos pins s1 σ H1 _ I1 q1) fun us s2 ⟨xs,H2,I2,r2,q2⟩=>⟨x::xs,H2,I2,.cons r1 r2,q2⟩
structure KBinds(K:PySem.W.Frag)(fd:FuncData)(ps ks:List Str)(g:List Value->List Value->List Value)(gV:List V->List V->List V):Prop where
 to:∀(s:Shared) (us ws:List Value),K.In s.heap->(g us ws).length=ps.length->BindsTo s fd ⟨us,ks.zip ws⟩ (ps.zip (g us ws))
 rel:∀{vs:List V}{us:List Value}{zs:List V}{ws:List Value},Vals vs us->Vals zs ws->Vals (gV vs zs) (g us ws)
variable{g:List Value->List Value->List Value}{gV:List V->List V->List V}
theorem run_fnk {pins:List (Addr×Obj)}{σ:St}{H:Hp}{s:Shared}{Q:VK}{us ws:List Value}{vs zs:List V} (F:FnOk X.prog X.w X.K X.mg X.base CX k f fd ps sp) (hr:Room k X.A) (hb:KBinds X.K fd ps ks g gV) (hx:Passes CX X E)
  (I:Inv X pins σ H s) (r:Vals vs us) (rz:Vals zs ws) (h:sp (gV vs zs) H Q E):wpAny (model X.prog X.w) X.A (call (.ref f) us (ks.zip ws)) (EP X pins σ Q) X.xe s:=by
 have r2:=hb.rel r rz
 have hl:(g us ws).length=ps.length:=by rw[←r2.length];exact F.len _ _ _ _ h
 refine wpAny_call (codeAny_mono (F.run X.A X.stack s H ⟨us,ks.zip ws⟩ (g us ws) (gV vs zs) Q E hr I.env0 (hb.to s us ws I.kIn hl) r2 h) fun r s' hq=>?_)
 cases r with
 |error e=>exact hx pins σ H s e s' I hq
 |ok fl=>
   cases fl with
   |ret u=>exact I.after hq
   |next=>exact False.elim hq
   |brk=>exact False.elim hq
   |cont=>exact False.elim hq
end
structure FnScope(N P:List Str)(sc:Scope):Prop where
 kind:sc.kind=.function
 co:sc.isCoroutine=false
 gen:sc.isGenerator=false
 nd:N.Nodup
 pre:N.take P.length=P
 par:∀x∈P,sc.names.lookup x=some .local∨sc.names.lookup x=some .cell
 nofree:∀y∈sc.names,y.2≠.free
theorem bindL_out {kindOf:Str->Option NameKind}{x:Str}:∀ {binds:List (Str×Value)}{m:Str->Option Value},(∀ v,(x,v)∉binds)->bindL kindOf binds m x=m x
 |[],_,_=>rfl
 | (n,v)::r,m,h=>by
   unfold bindL
   rw[bindL_out fun w hw=>h w (List.mem_cons_of_mem _ hw)]
   split
   ·have:x≠n:=by rintro rfl;exact h v List.mem_cons_self
    simp[this]
   ·rfl
theorem bindC_out {kindOf:Str->Option NameKind}{x:Str}:∀ {binds:List (Str×Value)}{m:Str->Option Value},(∀ v,(x,v)∉binds)->bindC kindOf binds m x=m x
 |[],_,_=>rfl
 | (n,v)::r,m,h=>by
   unfold bindC
   rw[bindC_out fun w hw=>h w (List.mem_cons_of_mem _ hw)]
   split
   ·rfl
   ·have:x≠n:=by rintro rfl;exact h v List.mem_cons_self
    simp[this]
theorem bindL_get {kindOf:Str->Option NameKind}{x:Str}{v:Value}:∀ {P:List Str}{vs:List Value}{i:Nat}{m:Str->Option Value},P.Nodup->P[i]?=some x->vs[i]?=some v->kindOf x=some .local->
  bindL kindOf (P.zip vs) m x=some v
 |[],_,_,_,_,h,_,_=>by simp at h
 |_::_,[],_,_,_,_,h,_=>by simp at h
 |p::P,w::vs,0,m,nd,h1,h2,hk=>by
   simp at h1 h2;subst h1;subst h2
   show bindL kindOf ((p,w)::P.zip vs) m p=_
   unfold bindL
   rw[bindL_out fun v hv=>(List.nodup_cons.mp nd).1 (List.of_mem_zip hv).1,if_pos hk]
   simp
 |p::P,w::vs,i+1,m,nd,h1,h2,hk=>by
   show bindL kindOf ((p,w)::P.zip vs) m x=_
   unfold bindL
   exact bindL_get (i:=i) (List.nodup_cons.mp nd).2 (by simpa using h1) (by simpa using h2) hk
theorem bindC_get {kindOf:Str->Option NameKind}{x:Str}{v:Value}:∀ {P:List Str}{vs:List Value}{i:Nat}{m:Str->Option Value},P.Nodup->P[i]?=some x->vs[i]?=some v->kindOf x≠some .local->
  bindC kindOf (P.zip vs) m x=some v
 |[],_,_,_,_,h,_,_=>by simp at h
 |_::_,[],_,_,_,_,h,_=>by simp at h
 |p::P,w::vs,0,m,nd,h1,h2,hk=>by
   simp at h1 h2;subst h1;subst h2
   show bindC kindOf ((p,w)::P.zip vs) m p=_
   unfold bindC
   rw[bindC_out fun v hv=>(List.nodup_cons.mp nd).1 (List.of_mem_zip hv).1,if_neg hk]
   simp
 |p::P,w::vs,i+1,m,nd,h1,h2,hk=>by
   show bindC kindOf ((p,w)::P.zip vs) m x=_
   unfold bindC
   exact bindC_get (i:=i) (List.nodup_cons.mp nd).2 (by simpa using h1) (by simpa using h2) hk
def start(N:List Str)(vs:List V):St:=vs.map some++List.replicate (N.length-vs.length) none
def cxOf(CX:CXT)(P:Program)(w:World)(K:PySem.W.Frag)(mg:Str->Option Value)(base:Heap)(N:List Str)(qual:Str)(scope:Scope)(f:Addr)(cd:Value)(A:Around)(outer:List Env)(s:Shared)(H:Hp)(E:XK):Cx where
 prog:=P
 w:=w
 K:=K
 mg:=mg
 base:=base
 A:=A.deeper (envOfC qual scope s.heap.objs.size f cd)
 N:=N
 s₀:=s
 H₀:=H
 env:=envOfC qual scope s.heap.objs.size f cd
 outer:=outer
 stack:=envOfC qual scope s.heap.objs.size f cd::outer
 ex:=[]
 calm:=true
 fn:=fun _=>true
 pn:=[]
 xe:=fun e s'=>wpAny (model P w) (A.deeper (envOfC qual scope s.heap.objs.size f cd)) (leaving (envOfC qual scope s.heap.objs.size f cd) e) (fun _ s''=>CX outer H s E e s'') (fun e' s''=>CX outer H s E e' s'') s'
theorem cell_has{sc:Scope}{n:Nat}{x:Str}(h:sc.names.lookup x=some .cell):∃c,(cellsFrom n sc.names []).lookup x=some c:=by
 have q:=PySem.W.cellsFrom_some sc.names n [] (.inl h)
 exact Option.isSome_iff_exists.mp q
theorem inv_start {CX:CXT}{P:Program}{w:World}{K:PySem.W.Frag}{mg:Str->Option Value}{base:Heap}{N ps:List Str}{qual:Str}{scope:Scope}{f:Addr}{cd:Value}{A:Around}{outer:List Env}{s s1:Shared}{H:Hp}{E:XK}{us:List Value}{vs:List V}
  (S:FnScope N ps scope) (hd:A.handled=none) (e0:Env0 P w K mg base A outer s H) (hl:vs.length=ps.length) (r:Vals vs us)
  (x:InCallC s s.heap.objs.size (bindL (envOfC qual scope s.heap.objs.size f cd).kindOf (ps.zip us) fun _=>none) (cellsFrom (s.heap.objs.size+1) scope.names []) (bindC (envOfC qual scope s.heap.objs.size f cd).kindOf (ps.zip us) fun _=>none) s1) :
  Inv (cxOf CX P w K mg base N qual scope f cd A outer s H E) [] (start N vs) H s1:=by
 have hpl:ps.length≤N.length:=by have:=congrArg List.length S.pre;rw[List.length_take] at this;omega
 obtain⟨h1,tk,rfl,hk⟩:=x.done
 have noA:∀b:Addr,b∉(cxOf CX P w K mg base N qual scope f cd A outer s H E).ex:=fun b z=>absurd (show b∈([]:List Addr) from z) (by simp)
 refine⟨⟨e0.mod,S.kind,rfl,rfl,Nat.le_refl _,fun y z c h1 h2=>?_,fun y hy=>?_,fun y c _ h=>?_,fun _=>hd,Around.frames_deeper e0.frames,.inr ⟨rfl,rfl⟩,fun b z=>absurd z (noA b),e0.bs,e0.bsz,fun b _ _=>noA b,fun b z=>absurd z (noA b),e0.funs,e0.frf⟩,
  rfl,e0.bare,Un.kept hk,⟨_,x.toInCall.ns,fun i y v h1 h2 h3=>?_⟩,fun y c h=>⟨_,x.cell y c h⟩,e0.hok.fresh (Nat.le_refl _),fun y c h=>?_,fun p hp=>absurd (show p∈([]:List (Addr×Obj)) from hp) (by simp),e0.hok.kept hk,?_⟩
 ·exact name_of_addr x.apart (PySem.mem_of_lookup h1) (PySem.mem_of_lookup h2)
 ·have hy:scope.names.lookup y=some .cell∨scope.names.lookup y=some .free:=hy
  rcases hy with hy | hy
  ·exact cell_has hy
  ·exact absurd rfl (S.nofree _ (PySem.mem_of_lookup hy))
 ·exact Nat.le_of_lt (x.above y c (PySem.mem_of_lookup h))
 ·have hi:i<vs.length:=by
   unfold start at h2
   by_cases hi:i<vs.length
   ·exact hi
   ·rw[List.getElem?_append_right (by simpa using hi)] at h2
    rw[List.getElem?_replicate] at h2
    split at h2<;>cases h2
  have ha:vs[i]?=some v:=by
   unfold start at h2
   rw[List.getElem?_append_left (by simpa using hi),List.getElem?_map] at h2
   cases e:vs[i]? with
   |none=>rw[e] at h2;cases h2
   |some a=>rw[e] at h2;cases h2;rfl
  obtain⟨u,hu,rv⟩:=r.get ha
  have hp:ps[i]?=some y:=by
   rw[←S.pre,List.getElem?_take_of_lt (by omega)];exact h1
  have ndP:ps.Nodup:=by rw[←S.pre];exact S.nd.sublist (List.take_sublist _ _)
  refine⟨u,rv,?_⟩
  rcases S.par y (List.mem_of_getElem? hp) with k | k
  ·exact .inl ⟨k,bindL_get ndP hp hu k⟩
  ·obtain⟨c,e⟩:=cell_has (n:=s.heap.objs.size+1) k
   refine .inr ⟨.inl k,c,e,?_⟩
   have q:=x.cell y c e
   rw[bindC_get ndP hp hu (by show scope.names.lookup y≠_;rw[k];decide)] at q
   exact q
 ·exact e0.hok.fresh (Nat.le_of_lt (x.above y c (PySem.mem_of_lookup h)))
 ·unfold start
  show _=N.length
  rw[List.length_append,List.length_map,List.length_replicate]
  omega
theorem fn_of {CX:CXT}{P:Program}{w:World}{K:PySem.W.Frag}{mg:Str->Option Value}{base:Heap}{k:Nat}{f:Addr}{name qual:Str}{params:Arguments}{body:List Stmt}{scope:Scope}{dV kV doc pm cdv ct oc:Value}{an od:Option Addr}
  {osl:Array (Option Value)}{N ps:List Str}{sp:Sp} (lk:K.lookup f=some ⟨oc,od,.func (PySem.W.fnOf name qual params body scope dV kV doc pm an cdv ct),osl⟩) (hcd:PySem.W.codeIn K cdv qual=true) (S:FnScope N ps scope)
  (len:∀vs H Q E,sp vs H Q E->vs.length=ps.length)
  (hbody:∀(A:Around) (outer:List Env) (s:Shared) (H:Hp) (vs:List V) (Q:VK) (E:XK),Room k (A.deeper (envOfC qual scope s.heap.objs.size f cdv))->sp vs H Q E->
    ∃t,PSs (cxOf CX P w K mg base N qual scope f cdv A outer s H E) body t∧t { nx:=fun _ H'=>Q .non H',rt:=Q } (start N vs) H) :
  FnOk P w K mg base CX (k+1) f (PySem.W.fnOf name qual params body scope dV kV doc pm an cdv ct) ps sp:=by
 refine⟨len,fun A outer s H args us vs Q E hr e0 hb r hsp=>?_⟩
 have hl:=len _ _ _ _ hsp
 have KX:K.In s.heap:=e0.mod.kin.keeps fun b o e=>(e0.bs b o e).1
 have lim:s.heap.NoLimit:=e0.mod.nolimit.keeps fun b o e=>(e0.bs b o e).1
 have hkind:∀y∈ps.zip us,scope.names.lookup y.1=some .local∨(scope.names.lookup y.1=some .cell∧((cellsFrom (s.heap.objs.size+1) scope.names []).lookup y.1).isSome=true):=fun⟨n,v⟩ hy=>by
  rcases S.par n (List.of_mem_zip hy).1 with q | q
  ·exact .inl q
  ·exact .inr ⟨q,PySem.W.cellsFrom_some _ _ _ (.inl q)⟩
 refine codeAny_call_function hr.depth (KX _ _ lk) rfl S.co S.gen rfl (PySem.W.codeRec_of KX hcd) (hb _ _ _ _ ?_)
 refine wpAny_newFunctionEnv_cells S.kind hkind fun env he s1 x=>?_
 subst he
 refine⟨lim.keeps x.toInCall.keep,codeAny_func ?_⟩
 obtain⟨t,ht,hq⟩:=hbody A outer s H vs Q E (hr.deeper _) hsp
 have I:Inv (cxOf CX P w K mg base N qual scope f cdv A outer s H E) [] (start N vs) H s1:=inv_start S hr.hd e0 hl r x
 refine wpAny_mono (ht [] s1 (start N vs) H _ I hq) (fun fl s' hs=>?_) fun e s' hs=>hs
 have fin:∀{σ':St}{H':Hp}{v:V}{u:Value},Inv (cxOf CX P w K mg base N qual scope f cdv A outer s H E) [] σ' H' s'->RelV v u->Q v H'->CE outer P w H s Q u s':=
  fun {σ' H' v u} J rv q=>⟨v,H',J.os,J.bare,J.base,J.hok,rv,q⟩
 cases fl with
 |ret u=>
   obtain⟨v,σ',H',J,rv,q⟩:=hs
   exact fin J rv q
 |next=>
   obtain⟨σ',H',J,q⟩:=hs
   exact fin (v:=V.non) (u:=Value.none) J rfl q
 |brk=>
   obtain⟨_,_,_,q⟩:=hs
   exact False.elim q
 |cont=>
   obtain⟨_,_,_,q⟩:=hs
   exact False.elim q
open PySem PySem.Spec PyProof.Rows
section
variable{X:Cx}{x:Str}{p pos:Pos}{e:Expr}{es:List Expr}{t:TA}{id T:String}{r:List V->Hp->VK->Prop}
def tCB(r:List V->Hp->VK->Prop)(t:TA):TE:=fun σ H Q=>t σ H fun vs H1=>r vs H1 Q
theorem pe_callB(hc:CallR X (.builtin id) r)(hg:Gl X x)(hm:X.mg x=none)(hv:bootBuiltins x=some (.builtin id))(ha:PA X (e::es) t)(hn:x≠"__name__":=by decide)(hdb:(x==("__debug__":Str))=false:=by decide)
  (he:starEach (e::es) X.env=(false,eval e X.env)::starEach es X.env:=by rfl) (hpl:(backTo pos (starEach es X.env)).any (·.1)=false:=by rfl):PE X (.Call (.Name x p) (e::es) [] pos) (tCB r t):=by
 intro pins s σ H Q I h
 refine wpAny_Call_Name_kw (ld_blt I hg hm hv ?_ hn hdb)
 exact PyProof.Rows.callWith_builtin1 (thn (ha pos pins s σ H _ I h) fun us s1 ⟨vs,H1,I1,r1,q1⟩=>hc pins s1 σ H1 vs us Q I1 r1 q1) he hpl
theorem pe_callTy(hc:CallR X (.type T) r)(hg:Gl X x)(hm:X.mg x=none)(hv:bootBuiltins x=some (.type T))(ha:PA X (e::es) t)(hn:x≠"__name__":=by decide)(hdb:(x==("__debug__":Str))=false:=by decide)
  (he:starEach (e::es) X.env=(false,eval e X.env)::starEach es X.env:=by rfl) (hpl:(backTo pos (starEach es X.env)).any (·.1)=false:=by rfl):PE X (.Call (.Name x p) (e::es) [] pos) (tCB r t):=by
 intro pins s σ H Q I h
 refine wpAny_Call_Name_kw (ld_blt I hg hm hv ?_ hn hdb)
 exact PyProof.Rows.callWith_type1 (thn (ha pos pins s σ H _ I h) fun us s1 ⟨vs,H1,I1,r1,q1⟩=>hc pins s1 σ H1 vs us Q I1 r1 q1) he hpl
end
end L2
namespace HT
open PySem PyProof.Rows
section
open PySem.SeqAt
open PySem.AutoSeq1 (wpAny_loadPart')
open PySem.MeetsSeq PySem.MeetsSeq2 PySem.MeetsSeq3
end
section
variable{prog:Program}{w:World}{A:Around}{E:Value->Shared->Prop}{s:Shared}
theorem cat_tup {t b:Addr}{vs ws:List Value}{Q:Value->Shared->Prop} (ht:IsTup s.heap t vs.toArray) (hb:IsTup s.heap b ws.toArray) (hv:vs≠[])
  (h1:ws=[]->Q (.ref t) s) (h2:ws≠[]->Q (.ref s.heap.objs.size) { s with heap:=s.heap.push { cls:=.type "tuple",data:=.seq (vs++ws).toArray } })
  (hsz:vs.length+ws.length≤sizeLine):wpAny (model prog w) A (binaryOp .Add (.ref t) (.ref b)) Q E s:=by
 obtain⟨⟨cls,dd,data,sl⟩,ho,hc,n,hd⟩:=id ht
 obtain⟨⟨cls2,dd2,data2,sl2⟩,ho2,hc2,n2,hd2⟩:=id hb
 simp only at hc hd hc2 hd2
 subst hc hd hc2 hd2
 have e:vs.toArray++ws.toArray=(vs++ws).toArray:=by simp
 by_cases hw:ws=[]
 ·exact concat_meets ⟨_,ho,rfl⟩ ⟨_,ho2,rfl⟩ noFill_tuple_add seq_tuple_add PySem.F.slot_tuple_add PySem.F.entry_tuple_add (PySem.F.args_tuple_add_2 _ _)
   (tuple_addW1 t b vs.toArray ws.toArray n n2 dd dd2 sl sl2 (by simpa using hv) (by simp[hw])) ⟨ho,ho2,h1 hw⟩
 ·refine concat_meets ⟨_,ho,rfl⟩ ⟨_,ho2,rfl⟩ noFill_tuple_add seq_tuple_add PySem.F.slot_tuple_add PySem.F.entry_tuple_add (PySem.F.args_tuple_add_2 _ _)
   (tuple_addW2 t b vs.toArray ws.toArray n n2 dd dd2 sl sl2 (by simpa using hv) (by simpa using hw) (by rw[List.size_toArray,List.size_toArray];exact hsz)) ⟨ho,ho2,?_⟩
  rw[e]
  exact h2 hw
def sIx(n d:Nat):Option Int->Nat
 |none=>d
 |some v=>if v<0 then (v+(n:Int)).toNat else min v.toNat n
theorem sIx_none(n d:Nat):sIx n d none=d:=rfl
theorem sIx_nat(n d k:Nat):sIx n d (some (k:Int))=min k n:=by
 show (if (k:Int)<0 then ((k:Int)+(n:Int)).toNat else min (k:Int).toNat n)=min k n
 rw[if_neg (by omega),Int.toNat_natCast]
theorem sIx_le (n d:Nat) (hd:d≤n) (o:Option Int):sIx n d o≤n:=by
 cases o with
 |none=>exact hd
 |some v=>
   show (if v<0 then (v+(n:Int)).toNat else min v.toNat n)≤n
   by_cases hv:v<0
   ·rw[if_pos hv];omega
   ·rw[if_neg hv];exact Nat.min_le_right _ _
theorem clip_eq(v:Int)(n d:Nat):(if v<0 then max (v+(n:Int)) 0 else min v (n:Int))=((sIx n d (some v):Nat):Int):=by
 show (if v<0 then max (v+(n:Int)) 0 else min v (n:Int))=(((if v<0 then (v+(n:Int)).toNat else min v.toNat n):Nat):Int)
 by_cases hv:v<0
 ·simp only[if_pos hv];omega
 ·simp only[if_neg hv];omega
theorem adjust_gen(lo hi:Option Int)(n:Nat):Builtin.Slice.sliceAdjust lo hi 1 (n:Int)=(((sIx n 0 lo:Nat):Int),((sIx n n hi:Nat):Int)):=by
 have h1:¬ ((1:Int)<0):=by omega
 unfold Builtin.Slice.sliceAdjust
 simp only[h1,if_false]
 refine Prod.ext ?_ ?_
 ·cases lo with
  |none=>rfl
  |some v=>exact clip_eq v n 0
 ·cases hi with
  |none=>rfl
  |some v=>exact clip_eq v n n
theorem places_gen(i j:Nat):Builtin.Slice.slicePlaces (i:Int) (j:Int) 1=j-i:=by
 unfold Builtin.Slice.slicePlaces
 have h1:(1:Int) > 0:=by omega
 simp only[h1,if_true,Int.ediv_one]
 split<;>omega
theorem slicePart_{v:Value}{o:Option Int}{Q:Option Int->Shared->Prop}(p:IsPart v o)(h:Q o s):wpAny (model prog w) A (Builtin.Slice.slicePartIndex v) Q E s:=by
 cases p with
 |none=>exact slicePart_none h
 |int i t=>exact slicePart_int h
theorem sliceApplied_gen{sl:Addr}{vl vu:Value}{lo hi:Option Int}{n:Nat}{Q:Int×Int×Nat->Shared->Prop}(hs:s.heap.IsSliceOf sl vl vu .none)(pl:IsPart vl lo)(pu:IsPart vu hi)
  (h:Q (((sIx n 0 lo:Nat):Int),1,sIx n n hi-sIx n 0 lo) s):wpAny (model prog w) A (Builtin.Slice.sliceApplied (.ref sl) (pure (n:Int))) Q E s:=by
 obtain⟨os,hos,hcs,hds⟩:=id hs
 unfold Builtin.Slice.sliceApplied Builtin.Slice.sliceFields
 refine wpAny_bind (wpAny_bind (wpAny_field hos hds (x:=vl) rfl (wpAny_bind (wpAny_field hos hds (x:=vu) rfl (wpAny_bind (wpAny_field hos hds (x:=.none) rfl (wpAny_pure ?_)))))))
 refine wpAny_bind (slicePart_none ?_)
 show wpAny _ _ (if ((1:Int)==0)=true then _ else _) _ _ s
 rw[if_neg (by decide)]
 refine wpAny_bind (slicePart_ pl (wpAny_bind (slicePart_ pu (wpAny_bind (wpAny_pure ?_)))))
 show wpAny _ _ (match Builtin.Slice.sliceAdjust lo hi 1 (n:Int) with | (lo,hi)=>pure (lo,(1:Int),Builtin.Slice.slicePlaces lo hi 1)) _ _ s
 rw[adjust_gen lo hi n]
 show wpAny _ _ (pure (((sIx n 0 lo:Nat):Int),(1:Int),Builtin.Slice.slicePlaces ((sIx n 0 lo:Nat):Int) ((sIx n n hi:Nat):Int) 1)) _ _ s
 rw[places_gen]
 exact wpAny_pure h
theorem pick_gen(xs:Array Value)(i k:Nat):((List.range k).filterMap fun (m:Nat)=>xs[((i:Int)+(m:Int)*1).toNat]?).toArray=((xs.toList.drop i).take k).toArray:=by
 have e:(fun (m:Nat)=>xs[((i:Int)+(m:Int)*1).toNat]?)=fun m=>xs[i+m]?:=by
  funext m
  have:((i:Int)+(m:Int)*1).toNat=i+m:=by omega
  rw[this]
 rw[e]
 have:=pick_run xs i k
 rw[List.filterMap_map] at this
 have e2:((fun x=>xs[x]?) ∘ fun x=>i+x)=fun m=>xs[i+m]?:=rfl
 rw[e2] at this
 rw[this]
theorem getItem_tuple_cut{t sl:Addr}{items:Array Value}{vl vu:Value}{lo hi:Option Int}{Q:Value->Shared->Prop}(ht:IsTup s.heap t items)(hs:s.heap.IsSliceOf sl vl vu .none)(pl:IsPart vl lo)(pu:IsPart vu hi)
  (hw:¬ (sIx items.size 0 lo=0∧sIx items.size items.size hi=items.size))
  (h:Q (.ref s.heap.objs.size) { s with heap:=s.heap.push { cls:=.type "tuple",data:=.seq ((items.toList.drop (sIx items.size 0 lo)).take (sIx items.size items.size hi-sIx items.size 0 lo)).toArray } })
  (hsz:items.size≤sizeLine):wpAny (model prog w) A (getItem (.ref t) (.ref sl)) Q E s:=by
 have htake:sizeOk (.seq ((items.toList.drop (sIx items.size 0 lo)).take (sIx items.size items.size hi-sIx items.size 0 lo)).toArray):=by
  show ((items.toList.drop (sIx items.size 0 lo)).take (sIx items.size items.size hi-sIx items.size 0 lo)).toArray.size≤sizeLine
  rw[List.size_toArray,List.length_take,List.length_drop,Array.length_toList]
  omega
 have hj:sIx items.size items.size hi≤items.size:=sIx_le _ _ (Nat.le_refl _) hi
 obtain⟨os,hos,hcs,hds⟩:=id hs
 have hTs:s.TypeIs (.ref sl) "slice":=⟨os,hos,hcs⟩
 unfold getItem
 try with_reducible refine wpAny_holding ?_
 first | refine wpAny_bind (wpAny_pure ?_) | skip
 refine wpAny_bind (wpAny_sequenceKey ht.typeIs (by decide) ?_)
 refine wpAny_bind (wpAny_callSpecial?_slot (name:=Str.ofString "__getitem__") ht.typeIs PyProof.Rows.slot_tuple_getitem
  (wpAny_call_entry PyProof.Rows.slot_tuple_getitem ht.typeIs entry_tuple_getitem ?_ (args_tuple_getitem _ _)))
 show wpAny _ _ (Builtin.Tuple.tupleItemsOf (.ref t)>>=_) _ _ s
 refine wpAny_bind (tupleItemsOf_ ht ?_)
 refine wpAny_bind (wpAny_typeOf hTs ?_)
 rw[if_pos (by decide)]
 refine wpAny_bind (sliceApplied_gen hs pl pu ?_)
 have hno:¬ ((((sIx items.size 0 lo:Nat):Int)==0&&(1:Int)==1&&(sIx items.size items.size hi-sIx items.size 0 lo)==items.size)=true):=by
  intro q
  rw[Bool.and_eq_true,Bool.and_eq_true] at q
  have q1:((sIx items.size 0 lo:Nat):Int)=0:=eq_of_beq q.1.1
  have q2:sIx items.size items.size hi-sIx items.size 0 lo=items.size:=eq_of_beq q.2
  exact hw ⟨by omega,by omega⟩
 show wpAny _ _ (if (((sIx items.size 0 lo:Nat):Int)==0&&(1:Int)==1&&(sIx items.size items.size hi-sIx items.size 0 lo)==items.size)=true then _ else _) _ _ s
 rw[if_neg hno,pick_gen]
 first
  |exact wpAny_bind (m:=Builtin.Tuple.tupleExact _) (wpAny_newObj_type (wpAny_pure ⟨_,rfl,wpAny_pure h⟩) htake)
  |exact wpAny_bind (m:=Builtin.Tuple.tupleExact _) (wpAny_newObj_type (wpAny_bind (wpAny_pure (wpAny_pure ⟨_,rfl,wpAny_pure h⟩))) htake)
  |exact wpAny_bind (wpAny_bind (m:=Builtin.Tuple.tupleExact _) (wpAny_newObj_type (wpAny_pure (wpAny_pure ⟨_,rfl,wpAny_pure h⟩)) htake))
  |exact wpAny_bind (wpAny_bind (m:=Builtin.Tuple.tupleExact _) (wpAny_newObj_type (wpAny_pure ⟨_,rfl,wpAny_pure h⟩) htake))
end
end HT
namespace L2
open PySem PySem.Spec PyProof.Rows
abbrev TO:=St->Hp->(Option Int->Hp->Prop)->Prop
def PO (X:Cx) (e:Option Expr) (t:TO):Prop:=
 ∀(pins:List (Addr×Obj)) (s:Shared) (σ:St) (H:Hp) (Q:Option Int->Hp->Prop),Inv X pins σ H s->t σ H Q->
   wpAny (model X.prog X.w) X.A (evalPart e X.env) (fun u s'=>∃o H',Inv X pins σ H' s'∧IsPart u o∧Q o H') X.xe s
def tNoPart:TO:=fun _ H Q=>Q none H
def tPart(t:TE):TO:=fun σ H Q=>t σ H fun x H1=>∃i,x=.int i∧Q (some i) H1
theorem intsAre_of {ns:List Int}:∀ {us:List Value},Vals (ns.map V.int) us->IntsAre us ns:=by
 induction ns with
 |nil=>intro us r;rw[List.map_nil] at r;cases r;exact .nil
 | cons n ns ih=>
   intro us r
   rw[List.map_cons] at r
   cases r with
   |cons r1 r2=>
     obtain⟨t,e⟩:=r1
     subst e
     exact .cons n t (ih r2)
section
variable{X:Cx}{e:Expr}{te:TE}{lo hi:Option Expr}{tl th:TO}{pos p2:Pos}
theorem po_none:PO X none tNoPart:=by
 intro pins s σ H Q I h
 rw[evalPart_none]
 exact wpAny_pure ⟨none,H,I,.none,h⟩
theorem po_some(h:PE X e te):PO X (some e) (tPart te):=by
 intro pins s σ H Q I hw
 rw[evalPart_some]
 refine thn (h pins s σ H _ I hw) fun u s1 ⟨x,H1,I1,r1,q1⟩=>?_
 obtain⟨i,rfl,q⟩:=q1
 obtain⟨t,rfl⟩:=r1
 exact⟨some i,H1,I1,.int i t,q⟩
def SlR (X:Cx) (r:V->Option Int->Option Int->Hp->VK->Prop):Prop:=
 ∀(pins:List (Addr×Obj)) (s:Shared) (σ:St) (H:Hp) (x:V) (v vl vu:Value) (lo hi:Option Int) (sl:Addr) (Q:VK),Inv X pins σ H s->RelV x v->s.heap.IsSliceOf sl vl vu .none->IsPart vl lo->IsPart vu hi->r x lo hi H Q->
   ∃T id,typeLookup (.type T) "__getitem__"=pure (some (.builtin id))∧s.TypeIs v T∧wpAny (model X.prog X.w) X.A (getItem v (.ref sl)) (EP X pins σ Q) X.xe s
def tSl(r:V->Option Int->Option Int->Hp->VK->Prop)(te:TE)(tl th:TO):TE:=fun σ H Q=>te σ H fun x H1=>tl σ H1 fun l H2=>th σ H2 fun u H3=>r x l u H3 Q
theorem pe_slice{r:V->Option Int->Option Int->Hp->VK->Prop}(hr:SlR X r)(he:PE X e te)(hl:PO X lo tl)(hu:PO X hi th):PE X (.Subscript e (.Slice lo hi none p2) pos) (tSl r te tl th):=by
 intro pins s σ H Q I h
 refine Subscript_ (thn (he pins s σ H _ I h) fun v s1 ⟨x,H1,I1,r1,q1⟩=>?_)
 refine wpAny_Slice (thn (hl pins s1 σ H1 _ I1 q1) fun vl s2 ⟨l,H2,I2,pl,q2⟩=>thn (hu pins s2 σ H2 _ I2 q2) fun vu s3 ⟨u,H3,I3,pu,q3⟩=>?_)
 rw[evalPart_none]
 refine wpAny_pure ?_
 have I4:Inv X pins σ H3 { s3 with heap:=s3.heap.push { cls:=.type "slice",data:=.fields #[vl,vu,.none] } }:=I3.kept (t':=s3.toks) fun b ob q=>Heap.get?_push_of_some _ q
 obtain⟨T,id,hT,ht,hg⟩:=hr pins { s3 with heap:=s3.heap.push { cls:=.type "slice",data:=.fields #[vl,vu,.none] } } σ H3 x v vl vu l u s3.heap.objs.size Q I4 r1 (Heap.IsSliceOf.new ..) pl pu q3
 show wpAny (model X.prog X.w) X.A (subscriptTail e (.Slice lo hi none p2) v (.ref s3.heap.objs.size)) (EP X pins σ Q) X.xe { s3 with heap:=s3.heap.push { cls:=.type "slice",data:=.fields #[vl,vu,.none] } }
 exact tail_any (ops:=[.ref s3.heap.objs.size,v]) ht hT hg (by with_unfolding_all rfl)
def cutV(xs:List V)(lo hi:Option Int):List V:=(xs.drop (HT.sIx xs.length 0 lo)).take (HT.sIx xs.length xs.length hi-HT.sIx xs.length 0 lo)
theorem cutV_length(xs:List V)(lo hi:Option Int):(cutV xs lo hi).length≤xs.length:=by
 unfold cutV
 rw[List.length_take,List.length_drop]
 omega
def rSlT(K:PySem.W.Frag):V->Option Int->Option Int->Hp->VK->Prop:=fun x lo hi H Q=>∃a xs,x=.ref a∧SqT K H a xs ∧
 ¬ (HT.sIx xs.length 0 lo=0∧HT.sIx xs.length xs.length hi=xs.length)∧∀p,H p=none->Q (.ref p) (upd H p (.tup (cutV xs lo hi)))
theorem sl_tup:SlR X (rSlT X.K):=by
 intro pins s σ H x v vl vu lo hi sl Q I rx hs pl pu h
 obtain⟨a,xs,rfl,hx,hw,q⟩:=h
 cases rx
 obtain⟨its,r,ht,hz⟩:=I.tuple hx
 have hlen:its.toArray.size=xs.length:=by rw[List.size_toArray];exact r.length.symm
 refine⟨"tuple",_,PyProof.Rows.slot_tuple_getitem.lookup,ht.typeIs,?_⟩
 refine HT.getItem_tuple_cut ht hs pl pu (by rw[hlen];exact hw) ?_ (by rw[hlen];exact hz)
 rw[hlen]
 refine⟨.ref s.heap.objs.size,_,I.laid (t':=s.toks) (o:=.tup (cutV xs lo hi)) (fun b ob q=>Heap.get?_push_of_some _ q) (Nat.le_refl _) ?_,rfl,q _ (I.hok.fresh (Nat.le_refl _))⟩
 exact⟨Nat.le_trans (cutV_length xs lo hi) hz,_,(r.drop (HT.sIx xs.length 0 lo)).take (HT.sIx xs.length xs.length hi-HT.sIx xs.length 0 lo),IsTup.new _ _⟩
def rCatT(K:PySem.W.Frag):R2:=fun x y H Q=>∃a b xs ys,x=.ref a∧y=.ref b∧SqT K H a xs∧SqT K H b ys∧xs≠[]∧xs.length+ys.length≤sizeLine ∧
 (ys=[]->Q (.ref a) H)∧(ys≠[]->∀p,H p=none->Q (.ref p) (upd H p (.tup (xs++ys))))
theorem Vals.nil_iff{xs:List V}{us:List Value}(r:Vals xs us):us=[] ↔ xs=[]:=by
 cases r with
 |nil=>simp
 |cons _ _=>simp
theorem op_catT:OpR X (binaryOp .Add) (rCatT X.K):=by
 intro pins s σ H x y v u Q I rx ry h
 obtain⟨a,b,xs,ys,rfl,rfl,ha,hb,hx,hz,q1,q2⟩:=h
 cases rx
 cases ry
 obtain⟨its,r1,p1,_⟩:=I.tuple ha
 obtain⟨its2,r2,p2,_⟩:=I.tuple hb
 refine HT.cat_tup p1 p2 (fun z=>hx (r1.nil_iff.mp z)) (fun z=>⟨.ref a,H,I,rfl,q1 (r2.nil_iff.mp z)⟩) (fun z=>?_) (by rw[←r1.length,←r2.length];exact hz)
 refine⟨.ref s.heap.objs.size,_,I.laid (t':=s.toks) (o:=.tup (xs++ys)) (fun b ob q=>Heap.get?_push_of_some _ q) (Nat.le_refl _) ?_,rfl,q2 (fun w=>z (r2.nil_iff.mpr w)) _ (I.hok.fresh (Nat.le_refl _))⟩
 exact⟨by rw[List.length_append];exact hz,_,r1.append r2,IsTup.new _ _⟩
end
open PySem PySem.Spec PyProof.Rows
def ixN(n:Nat)(i:Int):Option Nat:=if 0≤i then (if i<n then some i.toNat else none) else if -(n:Int)≤i then some (i+n).toNat else none
def atI{α:Type}(xs:List α)(i:Int):Option α:=(ixN xs.length i).bind fun j=>xs[j]?
theorem ixN_seq {n:Nat}{i:Int}{j:Nat} (h:ixN n i=some j):seqIndex? i n=some j∧j<n∧-(n:Int)≤i∧i<n:=by
 unfold ixN at h
 by_cases h0:0≤i
 ·rw[if_pos h0] at h
  by_cases h1:i<n
  ·rw[if_pos h1] at h
   have e:i.toNat=j:=Option.some.inj h
   exact⟨by rw[seqIndex_of h0 h1,e],by omega,by omega,h1⟩
  ·rw[if_neg h1] at h;cases h
 ·rw[if_neg h0] at h
  by_cases h1:-(n:Int)≤i
  ·rw[if_pos h1] at h
   have e:(i+n).toNat=j:=Option.some.inj h
   exact⟨by rw[seqIndex_neg (by omega) h1,e],by omega,h1,by omega⟩
  ·rw[if_neg h1] at h;cases h
theorem atI_get {α:Type}{xs:List α}{i:Int}{v:α} (h:atI xs i=some v):∃ j,seqIndex? i xs.length=some j∧xs[j]?=some v∧j<xs.length∧-(xs.length:Int)≤i∧i<xs.length:=by
 unfold atI at h
 cases e:ixN xs.length i with
 |none=>rw[e] at h;cases h
 |some j=>
   rw[e] at h
   obtain⟨h1,h2,h3,h4⟩:=ixN_seq e
   exact⟨j,h1,h,h2,h3,h4⟩
def PlainIx(b:Expr):Prop:=∀o i,subscripted b false o i=operate [o,i] (getItem o i)
def IxR (X:Cx) (r:R2):Prop:=
 ∀(value slice:Expr) (pins:List (Addr×Obj)) (s:Shared) (σ:St) (H:Hp) (x y:V) (v u:Value) (Q:VK),Inv X pins σ H s->RelV x v->RelV y u->r x y H Q->
   subscripted slice false v u=operate [v,u] (getItem v u)->wpAny (model X.prog X.w) X.A (subscriptTail value slice v u) (EP X pins σ Q) X.xe s
def MtR (X:Cx) (id:String) (r:V->List V->Hp->VK->Prop):Prop:=
 ∀(pins:List (Addr×Obj)) (s:Shared) (σ:St) (H:Hp) (x:V) (xs:List V) (v:Value) (us:List Value) (Q:VK),Inv X pins σ H s->RelV x v->Vals xs us->r x xs H Q->
   wpAny (model X.prog X.w) X.A (call (.builtin id) (v::us)) (EP X pins σ Q) X.xe s
section
variable{X:Cx}{a b:Expr}{ta tb:TE}{pos:Pos}
theorem pe_ix{r:R2}(hr:IxR X r)(ha:PE X a ta)(hb:PE X b tb)(hs:PlainIx b):PE X (.Subscript a b pos) (tOp r ta tb):=by
 intro pins s σ H Q I h
 exact Subscript_ (binT ha hb I h fun v u s2 x y H2 I2 rx ry q=>hr a b pins s2 σ H2 x y v u Q I2 rx ry q (hs _ _))
def rIxL(K:PySem.W.Frag):R2:=fun x y H Q=>∃p xs i v,x=.ref p∧y=.int i∧SqL K H p xs∧atI xs i=some v∧Q v H
def rIxT(K:PySem.W.Frag):R2:=fun x y H Q=>∃p xs i v,x=.ref p∧y=.int i∧SqT K H p xs∧atI xs i=some v∧Q v H
theorem ix_list:IxR X (rIxL X.K):=by
 intro value slice pins s σ H x y v u Q I rx ry h hs
 obtain⟨p,xs,i,z,rfl,rfl,hq,he,q⟩:=h
 cases rx
 obtain⟨t,rfl⟩:=ry
 obtain⟨its,r,pl,hz⟩:=I.list hq
 obtain⟨j,h1,h2,h3,h4,h5⟩:=atI_get he
 obtain⟨w,ew,rw'⟩:=r.get h2
 have hl:=r.length
 have hn:=line63
 have fin:EP X pins σ Q w s:=⟨z,H,I,rw',q⟩
 by_cases h0:0≤i
 ·have hj:i.toNat=j:=by
   rw[seqIndex_of h0 h5] at h1
   exact Option.some.inj h1
  exact item_listR pl.isList h0 (by omega) (by rw[hj];simpa using ew) fin hs
 ·have hj:(i+(its.toArray.size:Int)).toNat=j:=by
   rw[seqIndex_neg (by omega) h4] at h1
   rw[List.size_toArray,←hl]
   exact Option.some.inj h1
  exact subscriptTail_builtinR (x:=w) pl.isList.typeIs slot_list_getitem.lookup
   (wpAny_getItem_list_neg (Q:=fun r s'=>r=w∧EP X pins σ Q r s') pl.isList (by omega) (by rw[List.size_toArray]<;>omega) (by omega) (by rw[hj];simpa using ew) ⟨rfl,fin⟩) hs
theorem ix_tup:IxR X (rIxT X.K):=by
 intro value slice pins s σ H x y v u Q I rx ry h hs
 obtain⟨p,xs,i,z,rfl,rfl,hq,he,q⟩:=h
 cases rx
 obtain⟨t,rfl⟩:=ry
 obtain⟨its,r,pl,hz⟩:=I.tuple hq
 obtain⟨j,h1,h2,h3,h4,h5⟩:=atI_get he
 obtain⟨w,ew,rw'⟩:=r.get h2
 have hl:=r.length
 have hn:=line63
 have fin:EP X pins σ Q w s:=⟨z,H,I,rw',q⟩
 exact subscriptTail_builtinR (x:=w) pl.typeIs slot_tuple_getitem.lookup
  (getItem_tuple (j:=j) (Q:=fun r s'=>r=w∧EP X pins σ Q r s') pl (by omega) (by omega) (by rw[List.size_toArray,←hl];exact h1) (by simpa using ew) ⟨rfl,fin⟩) hs
theorem mapSeq_set(its:List Value)(n j:Nat)(u:Value):Obj.mapSeq (·.setIfInBounds j u) { cls:=.type "list",data:=.seq its.toArray n }={ cls:=.type "list",data:=.seq (its.set j u).toArray n }:=by
 simp[Obj.mapSeq]
theorem Inv.lst{pins:List (Addr×Obj)}{σ:St}{H:Hp}{s:Shared}{p:Addr}{xs:List V}(I:Inv X pins σ H s)(h:H p=some (.lst xs)) :
  ∃(its:List Value) (n:Nat),Vals xs its∧s.heap.get? p=some { cls:=.type "list",data:=.seq its.toArray n }∧xs.length≤sizeLine:=by
 obtain⟨z,its,n,r,e⟩:=I.hok p _ h
 exact⟨its,n,r,e,z⟩
theorem Inv.lstUpd{pins:List (Addr×Obj)}{σ:St}{H:Hp}{s:Shared}{p:Addr}{xs ys:List V}{its its':List Value}{n n':Nat}{f:Obj->Obj}(I:Inv X pins σ H s)(h:H p=some (.lst xs))
  (ho:s.heap.get? p=some { cls:=.type "list",data:=.seq its.toArray n }) (hf:f { cls:=.type "list",data:=.seq its.toArray n }={ cls:=.type "list",data:=.seq its'.toArray n' }) (r:Vals ys its') (hz:ys.length≤sizeLine) (t:Nat) :
  Inv X pins σ (upd H p (.lst ys)) { s with heap:=s.heap.update p f,toks:=t }:=by
 have e:(s.heap.update p f).get? p=some { cls:=.type "list",data:=.seq its'.toArray n' }:=by
  rw[Heap.get?_update_self f ho (by rw[hf]<;>rfl),hf]
 refine I.write (x:=p) (e:=p) (by rw[h];trivial) (.inl rfl) (fun b u hb q=>(Heap.get?_update_other _ _ (Ne.symm hb)).trans q) ⟨_,e⟩ ?_
 exact⟨hz,its',n',r,e⟩
def rSetL:V->V->V->Hp->(Hp->Prop)->Prop:=fun o i v H Q=>∃p xs k j,o=.ref p∧i=.int k∧H p=some (.lst xs)∧ixN xs.length k=some j∧Q (upd H p (.lst (xs.set j v)))
theorem set_list:PSet X rSetL:=by
 intro pins s σ H o i v ov iv u Q I ro ri rv h
 obtain⟨p,xs,k,j,rfl,rfl,hp,hj,q⟩:=h
 cases ro
 obtain⟨t,rfl⟩:=ri
 obtain⟨its,n,r,ho,hz⟩:=I.lst hp
 obtain⟨h1,h2,h3,h4⟩:=ixN_seq hj
 have hl:=r.length
 have hn:=line63
 have I':Inv X pins σ (upd H p (.lst (xs.set j v))) { s with heap:=s.heap.update p (Obj.mapSeq (·.setIfInBounds j u)) }:=
  I.lstUpd hp ho (mapSeq_set its n j u) (r.set rv j) (by rw[List.length_set];exact hz) s.toks
 by_cases h0:0≤k
 ·have hk:k.toNat=j:=by
   rw[seqIndex_of h0 h4] at h1
   exact Option.some.inj h1
  exact PySem.W.ki_setAt ho h0 (by omega) (by rw[List.size_toArray,←hl];exact h4) (by rw[hk];exact⟨_,I',q⟩)
 ·have hk:(k+(its.toArray.size:Int)).toNat=j:=by
   rw[seqIndex_neg (by omega) h3] at h1
   rw[List.size_toArray,←hl]
   exact Option.some.inj h1
  exact PySem.W.ki_setBack ho (by omega) (by rw[List.size_toArray,←hl];exact h3) (by omega) (by rw[hk];exact⟨_,I',q⟩)
theorem slice_bounds (lo hi:Option Int) (n:Nat):(sliceBounds lo hi none n).1=((HT.sIx n 0 lo:Nat):Int)∧(sliceBounds lo hi none n).2.1=((HT.sIx n n hi:Nat):Int)∧(sliceBounds lo hi none n).2.2=1:=by
 refine⟨?_,?_,rfl⟩
 ·cases lo with
  |none=>simp[sliceBounds,HT.sIx]
  |some i=>
    simp only[sliceBounds,HT.sIx,Option.getD_none,show (1:Int) > 0 by decide,if_true]
    by_cases h:i<0
    ·simp only[h,if_true]<;>omega
    ·simp only[h,if_false]<;>omega
 ·cases hi with
  |none=>simp[sliceBounds,HT.sIx]
  |some i=>
    simp only[sliceBounds,HT.sIx,Option.getD_none,show (1:Int) > 0 by decide,if_true]
    by_cases h:i<0
    ·simp only[h,if_true]<;>omega
    ·simp only[h,if_false]<;>omega
theorem slicePick_cut(its:List Value)(lo hi:Option Int):slicePick its.toArray lo hi none=((its.drop (HT.sIx its.length 0 lo)).take (HT.sIx its.length its.length hi-HT.sIx its.length 0 lo)).toArray:=by
 obtain⟨h1,h2,h3⟩:=slice_bounds lo hi its.toArray.size
 unfold slicePick
 rw[h1,h2,h3]
 simp only[sliceRange_one,pick_run,List.size_toArray]<;>rfl
def rSlL(K:PySem.W.Frag):V->Option Int->Option Int->Hp->VK->Prop:=fun x lo hi H Q=>∃a xs,x=.ref a∧SqL K H a xs∧∀p,H p=none->Q (.ref p) (upd H p (.lst (cutV xs lo hi)))
theorem sl_list:SlR X (rSlL X.K):=by
 intro pins s σ H x v vl vu lo hi sl Q I rx hs pl pu h
 obtain⟨a,xs,rfl,hx,q⟩:=h
 cases rx
 obtain⟨its,r,ht,hz⟩:=I.list hx
 have hlen:=r.length
 refine⟨"list",_,slot_list_getitem.lookup,ht.isList.typeIs,?_⟩
 refine wpAny_getItem_list_slice ht.isList hs pl pu .none (by simp) ?_ (by rw[List.size_toArray]<;>omega)
 rw[slicePick_cut,←hlen]
 refine⟨.ref s.heap.objs.size,_,I.laid (t':=s.toks) (o:=.lst (cutV xs lo hi)) (fun b ob q=>Heap.get?_push_of_some _ q) (Nat.le_refl _) ?_,rfl,q _ (I.hok.fresh (Nat.le_refl _))⟩
 exact⟨Nat.le_trans (cutV_length xs lo hi) hz,_,0,(r.drop (HT.sIx xs.length 0 lo)).take (HT.sIx xs.length xs.length hi-HT.sIx xs.length 0 lo),Heap.get?_push_size _ rfl⟩
theorem call_len_seq:CallR X (.builtin "len") (fun xs H Q=>∃p ys,xs=[.ref p]∧(SqL X.K H p ys∨SqT X.K H p ys)∧Q (.int ys.length) H):=by
 intro pins s σ H xs us Q I r h
 obtain⟨p,ys,rfl,hq,q⟩:=h
 obtain⟨u,rfl,rx⟩:=vals1 r
 cases rx
 have hn:=line63
 rcases hq with hq | hq
 ·obtain⟨its,r',pl,hz⟩:=I.list hq
  have hlen:=r'.length
  exact Calls.call_len_list pl.isList (by simp only[List.size_toArray]<;>omega) ⟨.int ys.length,H,I.tok _,⟨s.toks+1,by rw[List.size_toArray,hlen]⟩,q⟩
 ·obtain⟨its,r',pl,hz⟩:=I.tuple hq
  have hlen:=r'.length
  exact len_tuple pl (by simp only[List.size_toArray]<;>omega) ⟨.int ys.length,H,I.tok _,⟨s.toks+1,by rw[List.size_toArray,hlen]⟩,q⟩
theorem call_len_str:CallR X (.builtin "len") (fun xs H Q=>∃z,xs=[.str z]∧z.length≤sizeLine∧Q (.int z.length) H):=by
 intro pins s σ H xs us Q I r h
 obtain⟨z,rfl,hz,q⟩:=h
 obtain⟨u,rfl,t,rfl⟩:=vals1 r
 have hn:=line63
 exact len_str (by omega) ⟨.int z.length,H,I.tok _,⟨_,rfl⟩,q⟩
theorem CallR.or{f:Value}{r r':List V->Hp->VK->Prop}(h:CallR X f r)(h':CallR X f r'):CallR X f (fun xs H Q=>r xs H Q∨r' xs H Q):=by
 intro pins s σ H xs us Q I rs q
 rcases q with q | q
 ·exact h pins s σ H xs us Q I rs q
 ·exact h' pins s σ H xs us Q I rs q
theorem call_list_of:CallR X (.type "list") (fun xs H Q=>∃ p ys,xs=[.ref p]∧(SqL X.K H p ys∨SqT X.K H p ys)∧∀ l,H l=none->Q (.ref l) (upd H l (.lst ys))):=by
 intro pins s σ H xs us Q I r h
 obtain⟨p,ys,rfl,hq,q⟩:=h
 obtain⟨u,rfl,rx⟩:=vals1 r
 cases rx
 have fin:∀(its:List Value),Vals ys its->ys.length≤sizeLine->∀(h':Heap) (c':Nat),(∀b o',s.heap.get? b=some o'->h'.get? b=some o')->
   h'.get? s.heap.objs.size=some { cls:=.type "list",dict:=none,data:=.seq its.toArray c',slots:=#[] }->EP X pins σ Q (.ref s.heap.objs.size) { s with heap:=h' }:=fun its r' hz h' c' kp e=>
  ⟨.ref s.heap.objs.size,_,I.laid (t':=s.toks) kp (Nat.le_refl _) (show ObjOk X.prog X.w _ h' _ (.lst ys) from⟨hz,its,c',r',e⟩),rfl,q _ (I.hok.fresh (Nat.le_refl _))⟩
 rcases hq with hq | hq
 ·obtain⟨its,r',pl,hz⟩:=I.list hq
  have hlen:=r'.length
  obtain⟨o,ho,hc,n,hd⟩:=pl.isList
  exact call_list_seq p (.inl rfl) ho hc hd (fun h' c' kp e=>fin its r' hz h' c' kp e) (by simp only[List.size_toArray]<;>omega)
 ·obtain⟨its,r',pl,hz⟩:=I.tuple hq
  have hlen:=r'.length
  obtain⟨o,ho,hc,n,hd⟩:=pl
  exact call_list_seq p (.inr rfl) ho hc hd (fun h' c' kp e=>fin its r' hz h' c' kp e) (by simp only[List.size_toArray]<;>omega)
theorem call_tuple_of:CallR X (.type "tuple") (fun xs H Q=>∃ p ys,xs=[.ref p]∧((SqL X.K H p ys∧∀ l,H l=none->Q (.ref l) (upd H l (.tup ys)))∨(SqT X.K H p ys∧Q (.ref p) H))):=by
 intro pins s σ H xs us Q I r h
 obtain⟨p,ys,rfl,h⟩:=h
 obtain⟨u,rfl,rx⟩:=vals1 r
 cases rx
 rcases h with ⟨hq,q⟩ | ⟨hq,q⟩
 ·obtain⟨its,r',pl,hz⟩:=I.list hq
  have hlen:=r'.length
  refine call_tuple_list pl.isList (fun h' kp=>?_) (by simp only[List.size_toArray]<;>omega)
  have I1:Inv X pins σ H { s with heap:=h' }:=I.kept (t':=s.toks) kp
  have I2:Inv X pins σ (upd H h'.objs.size (.tup ys)) { s with heap:=h'.push { cls:=.type "tuple",data:=.seq its.toArray } }:=
   I1.laid (t':=s.toks) (fun b o e=>Heap.get?_push_of_some _ e) (Nat.le_refl _) (show ObjOk X.prog X.w _ _ _ (.tup ys) from⟨hz,its,r',IsTup.new _ _⟩)
  exact⟨.ref h'.objs.size,_,I2,rfl,q _ (I1.hok.fresh (Nat.le_refl _))⟩
 ·obtain⟨its,r',pl,hz⟩:=I.tuple hq
  exact call_tuple_same pl ⟨.ref p,H,I,rfl,q⟩
def tyV (K:PySem.W.Frag) (T:String) (x:V) (H:Hp):Prop:=match x with
 |.str _=>T = "str"
 |.int _=>T = "int"
 |.ref p=>(T = "list"∧∃xs,SqL K H p xs)∨(T = "tuple"∧∃o,K.lookup p=some o∧o.cls=.type "tuple"∧o.dict=none) ∨
   (T = "dict"∧((∃kvs,H p=some (.dK kvs))∨∃kvs,H p=some (.dT kvs)))∨(T = "set"∧∃S n,H p=some (.set S n))
 |_=>False
theorem tyV_is {pins:List (Addr×Obj)}{σ:St}{H:Hp}{s:Shared}{T:String}{x:V}{v:Value} (I:Inv X pins σ H s) (r:RelV x v) (ty:tyV X.K T x H) :
  s.TypeIs v T∧∀a,v=.ref a->∃ob,s.heap.get? a=some ob∧ob.dict=none:=by
 cases x with
 |str z=>
   obtain⟨t,rfl⟩:=r
   cases (show T = "str" from ty)
   exact⟨typeIs_str s z t,fun _ e=>nomatch e⟩
 |int i=>
   obtain⟨t,rfl⟩:=r
   cases (show T = "int" from ty)
   exact⟨typeIs_int s i t,fun _ e=>nomatch e⟩
 | ref p=>
   cases r
   rcases ty with ⟨rfl,xs,hq⟩ | ⟨rfl,o,hk,hc,hd⟩ | ⟨rfl,hk⟩ | ⟨rfl,S,n,hk⟩
   ·obtain⟨its,_,pl,_⟩:=I.list hq
    refine⟨pl.isList.typeIs,fun a e=>?_⟩
    cases e
    obtain⟨o,n,e,c,hd,_⟩:=pl
    exact⟨o,e,hd⟩
   ·refine⟨⟨o,I.kIn p o hk,hc⟩,fun a e=>?_⟩
    cases e
    exact⟨o,I.kIn _ o hk,hd⟩
   ·have z:∃ o,s.heap.get? p=some o∧o.ExactDict:=by
     rcases hk with ⟨kvs,hk⟩ | ⟨kvs,hk⟩
     ·obtain⟨_,_,_,_,o,_,_,e,ex,_⟩:=I.hok p _ hk
      exact⟨o,e,ex⟩
     ·obtain⟨_,_,_,_,o,_,_,e,ex,_⟩:=I.hok p _ hk
      exact⟨o,e,ex⟩
    obtain⟨o,e,ex⟩:=z
    refine⟨⟨o,e,ex.1⟩,fun a e2=>?_⟩
    cases e2
    exact⟨o,e,ex.2.1⟩
   ·obtain⟨o,_,_,_,e,ex,_⟩:=I.hok p _ hk
    refine⟨⟨o,e,ex.1⟩,fun a e2=>?_⟩
    cases e2
    exact⟨o,e,ex.2.1⟩
 |_=>exact False.elim ty
def tBM(K:PySem.W.Frag)(T:String)(r:V->List V->Hp->VK->Prop)(to:TE)(t:TA):TE:=fun σ H Q=>to σ H fun x H1=>tyV K T x H1∧t σ H1 fun xs H2=>r x xs H2 Q
variable{o e:Expr}{es:List Expr}{to:TE}{t:TA}{name:Str}{apos cpos:Pos}{T id:String}{r:V->List V->Hp->VK->Prop}
theorem pe_bm (pa:PlainAttrs T) (slot:Slot T name id) (hty:typeOf (.builtin id)=pure (.type "method_descriptor")) (hm:MtR X id r) (ho:PE X o to) (ha:PA X (e::es) t)
  (hbase:attributeBase o name X.env (eval o X.env)=eval o X.env:=by rfl)
  (hfew:((backTo cpos (starEach (e::es) X.env)).all (fun x=>!x.1)&&(backToKw cpos (keywordEach [] X.env)).all (fun x=>x.1.isSome)
   &&decide ((e::es).length+([]:List Keyword).length+(if ([]:List Keyword).isEmpty then 0 else 1)<30))=true:=by rfl)
  (hline:(apos.endLine==cpos.line)=true:=by rfl) (hs:starEach (e::es) X.env=(false,eval e X.env)::starEach es X.env:=by rfl) (hplain:(backTo cpos (starEach es X.env)).any (·.1)=false:=by rfl) :
  PE X (.Call (.Attribute o name apos) (e::es) [] cpos) (tBM X.K T r to t):=by
 intro pins s σ H Q I h
 refine wpAny_Call_method_late hbase hfew hline rfl (thn (ho pins s σ H _ I h) fun v s1 ⟨x,H1,I1,r1,ty,q1⟩=>?_)
 obtain⟨h1,h2⟩:=tyV_is I1 r1 ty
 refine⟨T,id,pa,slot,hty,h1,h2,?_⟩
 have hA:=ha cpos pins s1 σ H1 _ I1 q1
 rw[hs] at hA ⊢
 refine Calls.callWith_builtin (by show (false || (backTo cpos (starEach es X.env)).any (·.1))=false;rw[hplain]<;>rfl) (Calls.evalArgs_plain ?_)
 exact thn hA fun us s2 ⟨vs,H2,I2,r2,q2⟩=>hm pins s2 σ H2 x vs v us Q I2 r1 r2 q2
end
open PySem PySem.Spec PyProof.Rows
def MtM (X:Cx) (id:String) (r:V->List V->Hp->VK->Prop):Prop:=
 ∀(pins:List (Addr×Obj)) (s:Shared) (σ:St) (H:Hp) (x:V) (xs:List V) (v:Value) (us:List Value) (Q:VK),Inv X pins σ H s->RelV x v->Vals xs us->r x xs H Q->
   wpAny (model X.prog X.w) X.A (call (.builtin id) (v::us)) (EP X pins σ Q) X.xe s
theorem Vals.one:∀{x:V}{us:List Value},Vals [x] us->∃u,us=[u]∧RelV x u
 |_,_,.cons r .nil=>⟨_,rfl,r⟩
theorem Vals.eraseIdx:∀{xs:List V}{us:List Value} (i:Nat),Vals xs us->Vals (xs.eraseIdx i) (us.eraseIdx i)
 |_,_,_,.nil=>.nil
 |_,_,0,.cons _ t=>t
 |_,_,i+1,.cons r t=>.cons r (Vals.eraseIdx i t)
theorem Vals.rep {xs:List V}{us:List Value} (h:Vals xs us):∀ k:Nat,Vals (List.replicate k xs).flatten (List.replicate k us).flatten
 |0=>.nil
 |k+1=>by
   rw[List.replicate_succ,List.replicate_succ,List.flatten_cons,List.flatten_cons]
   exact Vals.append h (Vals.rep h k)
theorem len_erase{α:Type}:∀(l:List α) (i:Nat),(l.eraseIdx i).length≤l.length
 |[],_=>Nat.le_refl _
 |_::_,0=>Nat.le_succ _
 |_::r,i+1=>Nat.succ_le_succ (len_erase r i)
theorem foldl_rep (its:List Value):∀ (k:Nat) (acc:List Value),
  List.foldl (fun x1 x2=>x1++x2) acc.toArray (List.replicate k its.toArray)=(acc++(List.replicate k its).flatten).toArray
 |0,acc=>by simp
 | k + 1,acc=>by
   have e:acc.toArray++its.toArray=(acc++its).toArray:=by simp
   have e2:(acc++its)++(List.replicate k its).flatten=acc++(List.replicate (k+1) its).flatten:=by
    rw[List.replicate_succ,List.flatten_cons,List.append_assoc]
   rw[←e2,←foldl_rep its k (acc++its),←e,List.replicate_succ,List.foldl_cons]
section
variable{X:Cx}{pins:List (Addr×Obj)}{σ:St}{H:Hp}{s:Shared}{l b:Addr}{xs ys zs:List V}
theorem Inv.lset{its its':List Value}{n:Nat}{f:Array Value->Array Value}{t':Nat}(I:Inv X pins σ H s)(hH:H l=some (.lst xs))
  (e:s.heap.get? l=some { cls:=.type "list",data:=.seq its.toArray n }) (hf:f its.toArray=its'.toArray) (hv:Vals ys its') (hz:ys.length≤sizeLine) :
  Inv X pins σ (upd H l (.lst ys)) { s with heap:=s.heap.update l (Obj.mapSeq f),toks:=t' }:=by
 have q:=PySem.IsL.update e f
 rw[hf] at q
 refine I.write (x:=l) (e:=l) (by rw[hH];exact trivial) (.inl rfl) (fun b' u hb hu=>(Heap.get?_update_other s.heap (Obj.mapSeq f) (Ne.symm hb)).trans hu) ⟨_,q⟩ ?_
 exact⟨hz,its',_,hv,q⟩
theorem Inv.lnew{its:List Value}{t':Nat}(I:Inv X pins σ H s)(hv:Vals ys its)(hz:ys.length≤sizeLine) :
  Inv X pins σ (upd H s.heap.objs.size (.lst ys)) { s with heap:=s.heap.push { cls:=.type "list",data:=.seq its.toArray },toks:=t' }:=
 I.laid (fun _ _ q=>Heap.get?_push_of_some _ q) (Nat.le_refl _) ⟨hz,its,0,hv,Heap.get?_push_size _ rfl⟩
theorem Inv.fresh(I:Inv X pins σ H s):H s.heap.objs.size=none:=I.hok.fresh (Nat.le_refl _)
theorem Inv.lstM(I:Inv X pins σ H s)(hH:H l=some (.lst xs)):xs.length≤sizeLine∧∃(its:List Value) (n:Nat),Vals xs its∧xs.length=its.length∧s.heap.get? l=some { cls:=.type "list",data:=.seq its.toArray n }:=by
 obtain⟨z,its,n,r,e⟩:=I.hok l _ hH
 exact⟨z,its,n,r,r.length,e⟩
theorem notLongL{n:Nat}(h:n≤sizeLine):Builtin.List.listTooLong n=false:=by
 unfold Builtin.List.listTooLong
 exact decide_eq_false (by omega)
end
section
variable{X:Cx}
def rAppend:V->List V->Hp->VK->Prop:=fun x vs H Q=>∃l xs y,x=.ref l∧vs=[y]∧H l=some (.lst xs)∧xs.length<sizeLine∧Q .non (upd H l (.lst (xs++[y])))
theorem mt_append:MtM X "list.append" rAppend:=by
 intro pins s σ H x vs v us Q I rx rv h
 obtain⟨l,xs,y,rfl,rfl,hH,hz,q⟩:=h
 cases rx
 obtain⟨u,rfl,ru⟩:=rv.one
 obtain⟨z,its,n,r,hl,e⟩:=I.lstM hH
 refine call_meets F.slot_list_append ⟨_,e,rfl⟩ F.entry_list_append (F.args_list_append_2 _ _) (PySem.list_append l its.toArray n u (by rw[List.size_toArray];omega)) ⟨e,?_⟩
 refine⟨.non,_,I.lset (its':=its++[u]) hH e (by simp) (r.append (.cons ru .nil)) ?_,rfl,q⟩
 rw[List.length_append,List.length_singleton]
 omega
def rExtend:V->List V->Hp->VK->Prop:=fun x vs H Q=>∃l b xs zs,x=.ref l∧vs=[.ref b]∧H l=some (.lst xs)∧H b=some (.lst zs)∧xs.length+zs.length≤sizeLine∧Q .non (upd H l (.lst (xs++zs)))
theorem mt_extend:MtM X "list.extend" rExtend:=by
 intro pins s σ H x vs v us Q I rx rv h
 obtain⟨l,b,xs,zs,rfl,rfl,hH,hB,hz,q⟩:=h
 cases rx
 obtain⟨u,rfl,ru⟩:=rv.one
 cases ru
 obtain⟨z,its,n,r,hl,e⟩:=I.lstM hH
 obtain⟨z2,its2,n2,r2,hl2,e2⟩:=I.lstM hB
 have hsz:its.toArray.size+its2.toArray.size≤sizeLine:=by rw[List.size_toArray,List.size_toArray];omega
 have hlong:¬ (!its.toArray.isEmpty&&Builtin.List.listTooLong (its.toArray.size+its2.toArray.size))=true:=by
  rw[notLongL hsz,Bool.and_false]
  exact Bool.false_ne_true
 refine call_meets F.slot_list_extend ⟨_,e,rfl⟩ F.entry_list_extend (F.args_list_extend_2 _ _)
  (AutoSeq1.list_extend_list_list_0 l its.toArray n b its2.toArray n2 hlong (by rw[List.size_toArray];omega) (by omega)) ⟨e,e2,?_⟩
 refine⟨.non,_,I.lset (its':=its++its2) hH e (by simp) (r.append r2) ?_,rfl,q⟩
 rw[List.length_append]
 omega
def rPopAt:V->List V->Hp->VK->Prop:=fun x vs H Q=>∃l xs i k y,x=.ref l∧vs=[.int i]∧H l=some (.lst xs)∧-(2^63)≤i∧i<2^63∧seqIndex? i xs.length=some k∧xs[k]?=some y∧Q y (upd H l (.lst (xs.eraseIdx k)))
theorem mt_popAt:MtM X "list.pop" rPopAt:=by
 intro pins s σ H x vs v us Q I rx rv h
 obtain⟨l,xs,i,k,y,rfl,rfl,hH,h1,h2,hk,hy,q⟩:=h
 cases rx
 obtain⟨u,rfl,ru⟩:=rv.one
 obtain⟨t,rfl⟩:=ru
 obtain⟨z,its,n,r,hl,e⟩:=I.lstM hH
 obtain⟨w,hw,rw'⟩:=r.get hy
 refine call_meets F.slot_list_pop ⟨_,e,rfl⟩ F.entry_list_pop (F.args_list_pop_2 _ _)
  (MeetsSeq.list_pop_at l its.toArray n i t k w (fitsIndex_both h1 h2) (by rw[List.size_toArray,←hl];exact hk) (by rw[←Array.getElem?_toList];exact hw) (by rw[List.size_toArray];omega)) ⟨e,?_⟩
 refine⟨y,_,I.lset (its':=its.eraseIdx k) hH e ?_ (r.eraseIdx k) ?_,rw',q⟩
 ·show its.toArray.eraseIdxIfInBounds k=(its.eraseIdx k).toArray
  rw[List.eraseIdxIfInBounds_toArray]
 ·have:=len_erase xs k
  omega
def rCat:R2:=fun x y H Q=>∃l b xs zs,x=.ref l∧y=.ref b∧H l=some (.lst xs)∧H b=some (.lst zs)∧xs.length+zs.length≤sizeLine∧∀p,H p=none->Q (.ref p) (upd H p (.lst (xs++zs)))
theorem op_cat:OpR X (binaryOp .Add) rCat:=by
 intro pins s σ H x y v u Q I rx ry h
 obtain⟨l,b,xs,zs,rfl,rfl,hH,hB,hz,q⟩:=h
 cases rx
 cases ry
 obtain⟨z,its,n,r,hl,e⟩:=I.lstM hH
 obtain⟨z2,its2,n2,r2,hl2,e2⟩:=I.lstM hB
 refine PySem.P.add_list e e2 ?_ (by rw[List.size_toArray,List.size_toArray];omega)
 have ea:its.toArray++its2.toArray=(its++its2).toArray:=by simp
 rw[ea]
 exact⟨.ref _,_,I.lnew (t':=s.toks) (r.append r2) (by rw[List.length_append];omega),rfl,q _ I.fresh⟩
def rRep:R2:=fun x y H Q=>∃l k xs,x=.ref l∧y=.int k∧H l=some (.lst xs)∧-(2^63)≤k∧k<2^63∧xs.length*k.toNat≤sizeLine ∧
 ∀p,H p=none->Q (.ref p) (upd H p (.lst (List.replicate k.toNat xs).flatten))
theorem len_rep{α:Type}(xs:List α)(k:Nat):(List.replicate k xs).flatten.length=k*xs.length:=by
 induction k with
 |zero=>simp
 |succ k ih=>rw[List.replicate_succ,List.flatten_cons,List.length_append,ih,Nat.succ_mul,Nat.add_comm]
theorem op_rep:OpR X (binaryOp .Mult) rRep:=by
 intro pins s σ H x y v u Q I rx ry h
 obtain⟨l,k,xs,rfl,rfl,hH,h1,h2,hz,q⟩:=h
 cases rx
 obtain⟨t,rfl⟩:=ry
 obtain⟨z,its,n,r,hl,e⟩:=I.lstM hH
 have hlen:its.toArray.size*k.toNat≤sizeLine:=by rw[List.size_toArray,←hl];exact hz
 have hcap:¬ its.toArray.size*k.toNat > (2^63-1) / 8:=by
  have:(sizeLine:Nat)≤(2^63-1) / 8:=by decide
  omega
 have hfit:¬ (!Builtin.List.listFitsIndex k)=true:=by
  rw[fitsIndex_both h1 h2]
  exact Bool.false_ne_true
 have hlong:¬ Builtin.List.listTooLong (its.toArray.size*k.toNat)=true:=by
  rw[notLongL hlen]
  exact Bool.false_ne_true
 have hnew:List.foldl (fun x1 x2=>x1++x2) #[] (List.replicate (if its.toArray.isEmpty=true then 0 else k.toNat) its.toArray)=(List.replicate k.toNat its).flatten.toArray:=by
  have f0:∀m:Nat,List.foldl (fun x1 x2=>x1++x2) #[] (List.replicate m its.toArray)=(List.replicate m its).flatten.toArray:=fun m=>by
   have:=foldl_rep its m []
   rw[List.nil_append] at this
   exact this
  rw[f0]
  cases its with
  |nil=>simp
  |cons a r'=>rw[if_neg (by simp)]
 refine wpAny_binaryOp_repeat_ref (T := "list") (U := "int") (by decide) ⟨_,e,rfl⟩ (fun s'=>typeIs_int s' k t) noFill_list_mul F.fills_int_mul F.slot_int_rmul repeat_list F.slot_int_index.lookup
  (call_meets F.slot_int_rmul (typeIs_int s k t) F.entry_int_rmul (F.args_int_rmul_2 _ _) (int___rmul___int_list k t l its.toArray n)
    ⟨e,rfl,⟨_,e,rfl⟩,call_meets F.slot_list_mul ⟨_,e,rfl⟩ F.entry_list_mul (F.args_list_mul_2 _ _) (AutoListH.list___mul___list_int_3 l its.toArray n k t hfit hcap hlong) ⟨e,?_⟩⟩)
 rw[hnew]
 exact⟨.ref _,_,I.lnew (t':=s.toks) (r.rep k.toNat) (by rw[len_rep,Nat.mul_comm];exact hz),rfl,q _ I.fresh⟩
end
end L2
namespace Att
open PySem PySem.W PySem.Calls PyProof.Rows
theorem ints_of_wellAll {P:Params}{h:Heap}:∀ (ns:List Int) (vs:List Value),WellAll P h vs (ns.map WData.int)->IntsAre vs ns:=by
 intro ns
 induction ns with
 |nil=>
   intro vs w
   rw[List.map_nil] at w
   cases w
   exact .nil
 | cons n ns ih=>
   intro vs w
   rw[List.map_cons] at w
   cases w with
   |cons a b=>
     cases a
     exact .cons _ _ (ih _ b)
theorem script_of {l:OpenLaw}{n:Nat} (hn:l.most=some n) {P:Params}{h:Heap}{args:List WData}{vals:List Value}
  (hpre:l.row.toRowW.claim.pre args=true) (hwl:WellAll P h vals args) :
  ∃a vs ns,vals=[Value.ref a]∧args=[WData.list (ns.map WData.int)]∧h.get? a=some { cls:=.type "list",data:=.seq vs.toArray }∧IntsAre vs ns∧ns.length≤n:=by
 have hsh:WShape.hasAll [] args [.list .int]=true:=(pre_splitW hpre).1
 have hc:l.pre.holds [] { args:=args }=true:=(pre_splitW hpre).2
 obtain⟨d,r,rfl,h1,h2⟩:=hasAllW_cons hsh
 obtain rfl:=hasAllW_nil h2
 obtain⟨xs,rfl,h3⟩:=hasW_list h1
 obtain⟨ns,rfl⟩:=items_int h3
 have hlen:ns.length≤n:=by
  unfold OpenLaw.pre at hc
  have h4:(WTm.not (.lt (.lit (.int (n:Int))) (.len (.arg 0)))).holds [] { args:=[.list (ns.map .int)] }=true:=by
   have h4:=(holds_andW hc).1
   rw[hn] at h4
   exact h4
  have h5:=condW_of h4 (w_not (w_lt w_lit (w_len_list (w_arg rfl))))
  rw[List.length_map] at h5
  refine Nat.le_of_not_lt fun q=>?_
  have q':(n:Int)<((ns.length:Nat):Int):=by omega
  first
   |(rw[decide_eq_true q'] at h5;exact absurd h5 (by decide))
   |(simp at h5;omega)
 cases hwl with
 |cons w1 w2=>
   cases w2
   cases w1 with
   |list ho hall=>exact⟨_,_,ns,rfl,rfl,ho,ints_of_wellAll ns _ hall,hlen⟩
theorem post_true(l:OpenLaw)(args:List WData):l.row.toRowW.claim.post args (.bool true) args=true:=
 postW_of (r:=l.row.toRowW) (X:=(true==true))
  (show WShape.has [] (.bool true) .bool=true by first | rfl | decide | simp[WShape.has,WShape.arms,WShape.armsAll])
  (show (WTm.eq .res (.lit (.bool true))).value [] { args:=args,res:=some (.bool true),after:=args }=some (.bool (true==true)) from w_eq_bool (w_res rfl) w_lit) rfl
theorem attach_call {l:OpenLaw}{n:Nat}{q:Program}{loose:List Str}{XP:(Str->Option Value)->Heap->Prop}{YP:World->Heap->Prop}{d:DefRec}
  (hn:l.most=some n) (hdf:d.params.defaults=[])
  (call:∀(w:World) (s₀ s₁:Shared) (mg mb:Str->Option Value) (fa:Addr) (o:Obj) (pm cd doc:Value) (a:Addr) (vs:List Value) (ns:List Int),
    Ground q loose [] XP w s₀ mg mb s₁.heap->YP w s₁.heap->
    s₁.heap.get? fa=some o->o.data=.func (docDef d.name d.params d.body d.scope pm cd doc)->s₁.heap.CodeRec cd d.name->mg d.name=some (.ref fa)->
    s₁.heap.get? a=some { cls:=.type "list",data:=.seq vs.toArray }->IntsAre vs ns->ns.length≤n->s₁.gens=#[]->
    codeAny (model l.prog w) callerA (.call (.ref fa) ⟨[.ref a],[]⟩) (fun r s'=>r=.ok (.ret (.bool true))∧OldK s₁.heap s'.heap∧s'.os=s₁.os∧AllBare s'.gens) s₁) :
  WalkO q loose XP YP l.row.toRowW d [] (fun f vs=>PySem.call f vs):=by
 intro w s₀ s₁ mg mb G Y fa o pm cd doc dV kV ho hd hcd hD hmg hg args vals as hpre hlay hrd hwl hlo
 obtain rfl:dV=.none:=Dflts.none hD hdf
 obtain rfl:kV=.none:=Dflts.noKw hD
 obtain⟨a,vs,ns,rfl,rfl,hobj,hints,hlen⟩:=script_of hn hpre hwl
 refine enter_call (codeAny_mono (call w s₀ s₁ mg mb fa o pm cd doc a vs ns G Y ho (fd_plain hd) hcd hmg hobj hints hlen hg) fun r s' hq=>?_)
 obtain⟨rfl,h2,h3,h4⟩:=hq
 exact⟨.inl ⟨.bool true,.bool true,[],rfl,fun _=>rfl,.bool true,post_true l _,fun _=>⟨List.Pairwise.nil,fun _ hm=>(nomatch hm)⟩⟩,h2,h3,h4⟩
end Att
namespace L2
open PySem PySem.Spec PyProof.Rows
theorem vals_ints:∀{vs:List Value}{ns:List Int},IntsAre vs ns->Vals (ns.map V.int) vs
 |_,_,.nil=>.nil
 |_,_,.cons n t h=>.cons ⟨t,rfl⟩ (vals_ints h)
open PySem PySem.Spec PyProof.Rows
open PySem PySem.Spec PyProof.Rows
def inClass(s:Stmt)(j:Nat):Stmt:=match s with
 |.ClassDef _ _ _ body _ _ _ _ _ _ _=>body.getD j (.Pass ⟨0,0,0,0⟩)
 |_=>.Pass ⟨0,0,0,0⟩
def defArgs(s:Stmt):Arguments:=match s with
 |.FunctionDef _ a _ _ _ _ _ _ _ _=>a
 |_=>{ posonlyargs:=[],args:=[],vararg:=none,kwonlyargs:=[],kw_defaults:=[],kwarg:=none,defaults:=[] }
def defBody(s:Stmt):List Stmt:=match s with
 |.FunctionDef _ _ b _ _ _ _ _ _ _=>b
 |_=>[]
def defScope(s:Stmt):Scope:=match s with
 |.FunctionDef _ _ _ _ _ _ sc _ _ _=>sc
 |_=>{ kind:=.function,names:=[],isGenerator:=false,isCoroutine:=false }
abbrev E0:XK:=fun _ _ _=>False
structure Fun(K:PySem.W.Frag)(x qual:Str)(st:Stmt)(f:Addr)(fd:FuncData):Prop where
 ex:∃(oc:Value) (od:Option Addr) (kV doc pm:Value) (an:Option Addr) (cdv ct:Value) (osl:Array (Option Value)),
  fd=PySem.W.fnOf x qual (defArgs st) (defBody st) (defScope st) .none kV doc pm an cdv ct∧K.lookup f=some ⟨oc,od,.func fd,osl⟩∧PySem.W.codeIn K cdv qual=true
 kp:PySem.W.keepIn K (.ref f)=true
section
variable{P:Program}{w:World}{K:PySem.W.Frag}{mg:Str->Option Value}{base:Heap}
theorem Fun.binds{x qual:Str}{st:Stmt}{f:Addr}{fd:FuncData}{ps:List Str}(F:Fun K x qual st f fd)
  (h:∀(kV doc pm:Value) (an:Option Addr) (cdv ct:Value) (us:List Value),us.length=ps.length->bindArgs (PySem.W.fnOf x qual (defArgs st) (defBody st) (defScope st) .none kV doc pm an cdv ct) ⟨us,[]⟩=pure (ps.zip us)):Binds K fd ps []:=by
 obtain⟨oc,od,kV,doc,pm,an,cdv,ct,osl,rfl,lk,hcd⟩:=F.ex
 exact .all (h kV doc pm an cdv ct)
theorem fun_mk{x qual:Str}{st:Stmt}{f:Addr}{oc:Value}{od an:Option Addr}{osl:Array (Option Value)}{kV doc pm cdv ct:Value}(l:K.lookup f=some ⟨oc,od,.func (PySem.W.fnOf x qual (defArgs st) (defBody st) (defScope st) .none kV doc pm an cdv ct),osl⟩)
  (c:PySem.W.codeIn K cdv qual=true) (k:PySem.W.keepIn K (.ref f)=true):Fun K x qual st f (PySem.W.fnOf x qual (defArgs st) (defBody st) (defScope st) .none kV doc pm an cdv ct):=⟨⟨oc,od,kV,doc,pm,an,cdv,ct,osl,rfl,l,c⟩,k⟩
end
theorem iteF{A B:Prop}(h:B):if false=true then A else B:=by
 rw[if_neg Bool.false_ne_true]
 exact h
theorem iteT{A B:Prop}(h:A):if true=true then A else B:=by
 rw[if_pos rfl]
 exact h
def Same(H H':Hp):Prop:=∀b o,H b=some o->H' b=some o
theorem Same.refl(H:Hp):Same H H:=fun _ _ h=>h
mutual
inductive Rep(K:PySem.W.Frag)(H:Hp):V->PyData->Prop
 |non:Rep K H .non .none
 |bl (b:Bool):Rep K H (.bl b) (.bool b)
 |int (i:Int):Rep K H (.int i) (.int i)
 |str (x:Str):Rep K H (.str x) (.str x)
 |lst {a:Addr}{xs:List V}{ds:List PyData}:SqL K H a xs->Reps K H xs ds->Rep K H (.ref a) (.list ds)
 |tup {a:Addr}{xs:List V}{ds:List PyData}:SqT K H a xs->Reps K H xs ds->Rep K H (.ref a) (.tuple ds)
inductive Reps(K:PySem.W.Frag)(H:Hp):List V->List PyData->Prop
 |nil:Reps K H [] []
 |cons {v:V}{d:PyData}{vs:List V}{ds:List PyData}:Rep K H v d->Reps K H vs ds->Reps K H (v::vs) (d::ds)
end
section
variable{X:Cx}{pins:List (Addr×Obj)}{σ:St}{H:Hp}{s:Shared}
mutual
theorem Rep.reads (I:Inv X pins σ H s):∀ {v:V}{d:PyData}{u:Value},Rep X.K H v d->RelV v u->∃ as,Reads s.heap u d as
 |_,_,_,.non,r=>by cases r;exact⟨_,.none⟩
 |_,_,_,.bl b,r=>by cases r;exact⟨_,.bool b⟩
 |_,_,_,.int i,r=>by obtain⟨t,rfl⟩:=r;exact⟨_,.int i t⟩
 |_,_,_,.str x,r=>by obtain⟨t,rfl⟩:=r;exact⟨_,.str x t⟩
 |_,_,_,.lst h hs,r=>by
   cases r
   obtain⟨its,rv,⟨o,n,h1,h2,_,h3⟩,_⟩:=I.list h
   obtain⟨as,ra⟩:=Reps.reads I hs rv
   exact⟨_,.list h1 h2 h3 ra⟩
 |_,_,_,.tup h hs,r=>by
   cases r
   obtain⟨its,rv,⟨o,h1,h2,n,h3⟩,_⟩:=I.tuple h
   obtain⟨as,ra⟩:=Reps.reads I hs rv
   exact⟨_,.tuple h1 h2 h3 ra⟩
theorem Reps.reads (I:Inv X pins σ H s):∀ {vs:List V}{ds:List PyData}{us:List Value},Reps X.K H vs ds->Vals vs us->∃ as,ReadsAll s.heap us ds as
 |_,_,_,.nil,r=>by cases r;exact⟨_,.nil⟩
 | _,_,_,.cons h hs,r=>by
   cases r with
   |cons r1 r2=>
     obtain⟨a1,e1⟩:=Rep.reads I h r1
     obtain⟨a2,e2⟩:=Reps.reads I hs r2
     exact⟨_,.cons e1 e2⟩
end
end
theorem same_new{H:Hp}{p:Addr}(h:H p=none)(o:HO):Same H (upd H p o):=fun b u q=>by rw[upd_ne (ne_of_none q h)];exact q
section
variable{X:Cx}
def Bf(K:PySem.W.Frag)(neg:Bool):R2:=fun x y H Q=>∃da db,Rep K H x da∧Rep K H y db∧da.canLay0=true∧db.canLay0=true∧da.depth≤60∧Q (.bl (if neg then !PyData.eqv da db else PyData.eqv da db)) H
theorem Gf(hu:X.A.units+64<cLine):OpR X (compareOp .Eq) (Bf X.K false):=by
 intro pins s σ H x y v u Q I rx ry h
 obtain⟨da,db,ha,hb,la,lb,hd,q⟩:=h
 obtain⟨as,ra⟩:=ha.reads I rx
 obtain⟨bs,rb⟩:=hb.reads I ry
 exact PySem.SeqAt.compareEq_reads ra rb la lb (by omega) ⟨.bl _,H,I,rfl,q⟩
theorem Gg(hu:X.A.units+64<cLine):OpR X (compareOp .NotEq) (Bf X.K true):=by
 intro pins s σ H x y v u Q I rx ry h
 obtain⟨da,db,ha,hb,la,lb,hd,q⟩:=h
 obtain⟨as,ra⟩:=ha.reads I rx
 obtain⟨bs,rb⟩:=hb.reads I ry
 exact PySem.SeqAt.compareNe_reads ra rb la lb (by omega) ⟨.bl _,H,I,rfl,q⟩
def Hl(i j:Int):Prop:=IntMulOk i j
theorem Dk:OpR X (binaryOp .Mult) (rI Hl fun i j=>.int (i*j)):=opI fun _ _ _ _ _ _ _ hc q=>mul_int q hc
theorem zQ:CallR X (.builtin "isinstance") (fun xs H Q=>∃x t c b,xs=[x,.ty c]∧TyOf X.K H x t∧PySem.W.kitOne X.K t (.type c)=some b∧Q (.bl b) H):=by
 intro pins s σ H xs us Q I r h
 obtain⟨x,t,c,b,rfl,ty,e,q⟩:=h
 obtain⟨u,w',rfl,r1,r2⟩:=vals2 r
 cases r2
 exact isinst_ok I r1 ty e fun tk=>⟨.bl b,H,I.tok _,rfl,q⟩
end
open PySem PySem.Spec PyProof.Rows
structure DefAt(K:PySem.W.Frag)(mg:Str->Option Value)(x:Str)(st:Stmt):Prop where
 ex:∃f fd,Fun K x x st f fd∧mg x=some (.ref f)
theorem Ac{K:PySem.W.Frag}{h:Heap}{mg:Str->Option Value}{x:Str}{st:Stmt}{f:Addr}{oc:Value}{od an:Option Addr}{osl:Array (Option Value)}{kV doc pm cdv ct:Value}(X:K.In h)(G:h.Ns mainGlobals mg)
  (a:PySem.W.nsIn K mainGlobals x=some (some (.ref f))) (l:K.lookup f=some ⟨oc,od,.func (PySem.W.fnOf x x (defArgs st) (defBody st) (defScope st) .none kV doc pm an cdv ct),osl⟩) (c:PySem.W.codeIn K cdv x=true) (k:PySem.W.keepIn K (.ref f)=true):DefAt K mg x st:=
 ⟨f,_,fun_mk l c k,PySem.W.mg_of X G a⟩
section
variable{X:Cx}{j k:Nat}{ps:List Str}{sp:Sp}{x:Str}{p pos:Pos}{e:Expr}{es:List Expr}{t:TA}
theorem Ji{id:String}{r:List V->Hp->VK->Prop}(hc:CallR X (.builtin id) r)(hm:X.mg x=none)(ha:PA X (e::es) t)(hg:Gl X x:=by rfl)(hv:bootBuiltins x=some (.builtin id):=by decide +kernel)(hn:x≠"__name__":=by decide)(hdb:(x==("__debug__":Str))=false:=by decide)
  (he:starEach (e::es) X.env=(false,eval e X.env)::starEach es X.env:=by rfl) (hpl:(backTo pos (starEach es X.env)).any (·.1)=false:=by rfl) :
  PE X (.Call (.Name x p) (e::es) [] pos) (tCB r t):=pe_callB hc hg hm hv ha hn hdb he hpl
theorem HD{T:String}(hm:X.mg x=none)(hg:Gl X x:=by rfl)(hv:bootBuiltins x=some (.type T):=by decide +kernel)(hn:x≠"__name__":=by decide)(hdb:(x==("__debug__":Str))=false:=by decide):PE X (.Name x pos) (tC (.ty T)):=
 pe_bltn hg hm hv rfl hn hdb
end
end L2
namespace L2
open PySem PySem.Spec PyProof.Rows
open PySem PySem.Spec PyProof.Rows
theorem ObjOk.there{P:Program}{w:World}{H:Hp}{h:Heap}{a:Addr}{o:HO}(x:ObjOk P w H h a o):∃u,h.get? a=some u:=by
 induction o with
 |lst xs=>obtain⟨_,_,_,_,e⟩:=x;exact⟨_,e⟩
 |tup xs=>obtain⟨_,_,_,o,e,_⟩:=x;exact⟨_,e⟩
 |dK kvs=>obtain⟨_,_,_,_,o,_,_,e,_⟩:=x;exact⟨_,e⟩
 |dT kvs=>obtain⟨_,_,_,_,o,_,_,e,_⟩:=x;exact⟨_,e⟩
 |set S n=>obtain⟨o,_,_,_,e,_⟩:=x;exact⟨_,e⟩
 |ins C dx fs=>obtain⟨_,_,_,e,_⟩:=x;exact⟨_,e⟩
 |own y=>exact x
 |xd fs=>obtain⟨_,⟨o,es,ep,e,_⟩,_⟩:=x;first | exact⟨_,e⟩ | exact⟨o,es⟩
 |met g y=>exact⟨_,x⟩
 |rng lo hi=>obtain⟨_,_,_,e⟩:=x;exact⟨_,e⟩
 |frz o u ih=>exact⟨_,x.1⟩
 |tbl ps=>obtain⟨_,e,_⟩:=x;exact⟨_,e⟩
 |ext φ=>exact x.2.1
end L2
namespace L2
open PySem PySem.Spec PyProof.Rows
def bw (P:Program) (w:World):CXT:=fun outer H s E e s'=>
 ∃(x:Addr) (C a0:Value) (H':Hp) (B:Heap),e=.ref x∧s'.os=s.os∧AllBare s'.gens∧Un (frs outer) [] H H' s.heap s'.heap∧HOk P w H' s'.heap∧Heap.FlyingW B outer x C a0 s'.heap ∧
   (∀b,H' b≠none->∃o,B.get? b=some o)∧(∀b o,s.heap.get? b=some o->b∉frs outer->∃o',B.get? b=some o')∧E C none H'
theorem nu{env:Env}{l:List Env}{L:Addr}(h:env.frame=some L):frs (env::l)=L::frs l:=by
 unfold frs;rw[List.filterMap_cons,h]
theorem jc {fs:List Addr}{H H':Hp}{h0 h h' B:Heap} (u:Un fs [] H H' h0 h) (hB:B.StaysIn h) (hB':B.StaysIn h') (up:h.UpToSlots h')
  (fr:∀b∈fs,∃o,h.get? b=some o∧∀vs,o.data≠.fields vs) (cov:∀b o,h0.get? b=some o->b∉fs->∃o',B.get? b=some o'):Un fs [] H H' h0 h' where
 keep b o e n hb hx:=by
  have h1:=u.keep b o e n hb hx
  obtain⟨o',e'⟩:=cov b o e hb
  have h2:=hB b o' e'
  rw[h1] at h2;cases h2
  exact hB' b o e'
 slot b o e n hb hx:=by
  obtain⟨sl,h1⟩:=u.slot b o e n hb hx
  obtain⟨o1,h2,nf⟩:=fr b hb
  rw[h1] at h2;cases h2
  obtain⟨sl2,h3⟩:=up b _ h1 nf
  exact⟨sl2,h3⟩
 free:=u.free
 there b o e hx:=by
  by_cases hb:b∈fs
  ·obtain⟨o1,h2,nf⟩:=fr b hb
   obtain⟨sl2,h3⟩:=up b _ h2 nf
   exact⟨_,h3⟩
  ·obtain⟨o',e'⟩:=cov b o e hb
   exact⟨o',hB' b o' e'⟩
 tups:=u.tups
 frzs:=u.frzs
 tbls:=u.tbls
theorem dg {P:Program}{w:World}{H':Hp}{h h' B:Heap} (ok:HOk P w H' h) (hB:B.StaysIn h) (hB':B.StaysIn h') (cov:∀ b,H' b≠none->∃ o,B.get? b=some o):HOk P w H' h':=fun a o e=>
 (ok a o e).stay (fun b u hb hu=>by
   have hn:H' b≠none:=by
    rcases hb with rfl | hb
    ·rw[e];simp
    ·rw[hb];simp
   obtain⟨o',e'⟩:=cov b hn
   have:=hB b o' e'
   rw[hu] at this;cases this
   exact hB' b u e') (fun _ h=>h) (fun _ _ h=>h)
section
variable{P:Program}{w:World}{K:PySem.W.Frag}{mg:Str->Option Value}{base:Heap}{N:List Str}{qual:Str}{scope:Scope}{f:Addr}{cd:Value}{A:Around}{outer:List Env}{s:Shared}{H:Hp}{E:XK}
abbrev aH(P:Program)(w:World)(K:PySem.W.Frag)(mg:Str->Option Value)(base:Heap)(N:List Str)(qual:Str)(scope:Scope)(f:Addr)(cd:Value)(A:Around)(outer:List Env)(s:Shared)(H:Hp)(E:XK):Cx:=
 cxOf (bw P w) P w K mg base N qual scope f cd A outer s H E
theorem aG:Passes (bw P w) (aH P w K mg base N qual scope f cd A outer s H E) E:=by
 intro pins σ H1 s1 e s' I hf
 obtain⟨x,C,a0,H',B,rfl,os,bare,un,hok,fl,ci,cii,q⟩:=hf
 have J:Inv (aH P w K mg base N qual scope f cd A outer s H E) pins σ H' s':=I.call' (ch:=[]) os un hok bare (fun b z=>absurd z (by simp))
 have hfr:(aH P w K mg base N qual scope f cd A outer s H E).A.frames=some ((aH P w K mg base N qual scope f cd A outer s H E).env::outer):=I.ok.frames
 have hfs:∀b∈frs outer,∃o,s'.heap.get? b=some o∧∀vs,o.data≠.fields vs:=fun b hb=>(fl.2.2.1.2.2.mem hb).2
 have hfrm:(aH P w K mg base N qual scope f cd A outer s H E).env.frame=some (aH P w K mg base N qual scope f cd A outer s H E).env.locals:=rfl
 have cov:∀b o,s.heap.get? b=some o->b∉frs outer->∃o',B.get? b=some o':=fun b o e hb=>by
  obtain⟨o1,h1⟩:=I.base.there b o e (show b∉([]:List Addr) by simp)
  refine cii b o1 h1 ?_
  show b∉frs ((aH P w K mg base N qual scope f cd A outer s H E).env::outer)
  rw[nu hfrm]
  intro hm
  rcases List.mem_cons.mp hm with rfl | hm
  ·exact absurd (Heap.lt_size e) (Nat.not_lt.mpr I.ok.above)
  ·exact hb hm
 show wpAny _ _ (leaving _ (.ref x)) _ _ s'
 refine wpAny_leaves_onW hfr rfl fl fun h' fl' up=>?_
 exact⟨x,C,a0,H',B,rfl,J.os,bare,jc J.base fl.1 fl'.1 up hfs cov,dg hok fl.1 fl'.1 ci,fl',ci,cov,q⟩
theorem G3 {pins:List (Addr×Obj)}{σ:St}{H1:Hp}{s1:Shared}{h1:Heap}{e:Addr}{C:Value}{args:List Value} (I:Inv (aH P w K mg base N qual scope f cd A outer s H E) pins σ H1 s1)
  (hx:Heap.MadeExcOf s1.heap h1 e C args) (q:E C none H1):(aH P w K mg base N qual scope f cd A outer s H E).xe (.ref e) { s1 with heap:=h1 }:=by
 have hfr:(aH P w K mg base N qual scope f cd A outer s H E).A.frames=some ((aH P w K mg base N qual scope f cd A outer s H E).env::outer):=I.ok.frames
 have hfrm:(aH P w K mg base N qual scope f cd A outer s H E).env.frame=some (aH P w K mg base N qual scope f cd A outer s H E).env.locals:=rfl
 have ff:s1.heap.FunFrames base ((aH P w K mg base N qual scope f cd A outer s H E).env::outer):=I.stack
 have hin:∀env∈((aH P w K mg base N qual scope f cd A outer s H E).env::outer),∀b,env.frame=some b->b∈frs ((aH P w K mg base N qual scope f cd A outer s H E).env::outer):=fun env he b hb=>List.mem_filterMap.mpr ⟨env,he,hb⟩
 have hst:(PySem.W.hideAll s1.heap (frs ((aH P w K mg base N qual scope f cd A outer s H E).env::outer))).StaysIn s1.heap:=fun b o q=>PySem.W.of_hideAll _ q
 have cov:∀b o,s.heap.get? b=some o->b∉frs outer->∃o',(PySem.W.hideAll s1.heap (frs ((aH P w K mg base N qual scope f cd A outer s H E).env::outer))).get? b=some o':=fun b o e hb=>by
  obtain⟨o1,h1⟩:=I.base.there b o e (show b∉([]:List Addr) by simp)
  refine⟨o1,PySem.W.hideAll_get _ h1 ?_⟩
  rw[nu hfrm]
  intro hm
  rcases List.mem_cons.mp hm with rfl | hm
  ·exact absurd (Heap.lt_size e) (Nat.not_lt.mpr I.ok.above)
  ·exact hb hm
 have ci:∀ b,H1 b≠none->∃ o,(PySem.W.hideAll s1.heap (frs ((aH P w K mg base N qual scope f cd A outer s H E).env::outer))).get? b=some o:=fun b hb=>by
  cases hb':H1 b with
  |none=>exact absurd hb' hb
  |some o=>
    have lt:=I.hok.lt hb'
    have ex:∃o',s1.heap.get? b=some o':=(I.hok b o hb').there
    obtain⟨o',ho'⟩:=ex
    refine⟨o',PySem.W.hideAll_get _ ho' fun hm=>?_⟩
    have:=I.stkFree b hm
    rw[hb'] at this;cases this
 have hfs:∀b∈frs outer,∃o,h1.get? b=some o∧∀vs,o.data≠.fields vs:=fun b hb=>by
  obtain⟨_,o,ho,nf⟩:=ff.2.2.mem hb
  exact⟨o,hx.keeps _ _ ho,nf⟩
 have I1:Inv (aH P w K mg base N qual scope f cd A outer s H E) pins σ H1 { s1 with heap:=h1 }:=I.kept (t':=s1.toks) hx.keeps
 show wpAny _ _ (leaving _ (.ref e)) _ _ _
 refine wpAny_leaves_madeW hfr rfl hst (PySem.W.funFrames_hide ff hin) hx fun h' t fl' _ _ up=>?_
 exact⟨e,C,.ref t,H1,_,rfl,I1.os,I1.bare,jc I1.base (fun b o e=>hx.keeps _ _ (hst _ _ e)) fl'.1 up hfs cov,dg I1.hok (fun b o e=>hx.keeps _ _ (hst _ _ e)) fl'.1 ci,fl',ci,cov,q⟩
end
abbrev gZ:List Value:=[.type "ValueError",.type "Exception",.type "BaseException",.type "object"]
theorem qt {K:PySem.W.Frag}{h:Heap}{mg:Str->Option Value}{x:Str}{C:Addr}{bmB:List Value}{newId:String} (X:K.In h) (m:mg x=some (.ref C)) (q:PySem.W.excIn K C bmB newId=true):OwnCls x C bmB newId mg h:=by
 refine⟨m,?_⟩
 unfold PySem.W.excIn at q
 split at q
 ·rename_i dd cd sl hobj
  split at q
  ·rename_i C' tl a0 a1 a2 a3 n a5 hmro hslot
   (simp only[Bool.not_eq_true',Bool.and_eq_true,beq_iff_eq] at q)
   obtain⟨⟨⟨⟨⟨rfl,rfl⟩,hnd⟩,ht⟩,hns⟩,hin⟩:=q
   obtain⟨c1,c2,c3,c4,c5,c6,c7,c8,c9,c10,c11⟩:=cd
   dsimp only at hmro hnd hns hin
   subst hmro hnd
   have hslv:sl=#[a0,a1,a2,a3,some (.builtin n),a5]:=by
    obtain⟨l⟩:=sl
    simp only at hslot
    rw[hslot]
   subst hslv
   exact⟨tl,c4,c1,c5,c2,c6,c7,c8,c9,c10,dd,a0,a1,a2,a3,a5,_,X _ _ hobj,.of_isNs (PySem.W.isNs_of_in X hns),PySem.W.nsMap_none_of_in X hns hin,PySem.W.tail_of_in X ht⟩
  ·cases q
 ·cases q
structure XCls(K:PySem.W.Frag)(mg:Str->Option Value)(x:Str)(C:Addr):Prop where
 at_:mg x=some (.ref C)
 exc:PySem.W.excIn K C gZ "ValueError.__new__"=true
section
variable{P:Program}{w:World}{K:PySem.W.Frag}{mg:Str->Option Value}{base:Heap}{N:List Str}{qual:Str}{scope:Scope}{f:Addr}{cd:Value}{A:Around}{outer:List Env}{s:Shared}{H:Hp}{E:XK}
theorem Bd{x:Str}{C:Addr}{np cpos pos:Pos}{e:Expr}{te:TE}(hc:XCls K mg x C)(he:PE (aH P w K mg base N qual scope f cd A outer s H E) e te)
  (hg:Gl (aH P w K mg base N qual scope f cd A outer s H E) x:=by rfl) (hd:(x==("__debug__":Str))=false:=by decide)
  (hst:starEach [e] (aH P w K mg base N qual scope f cd A outer s H E).env=[(false,eval e (aH P w K mg base N qual scope f cd A outer s H E).env)]:=by rfl) :
  PS (aH P w K mg base N qual scope f cd A outer s H E) (.Raise (some (.Call (.Name x np) [e] [] cpos)) none pos) (fun _ σ H1=>te σ H1 fun v H2=>[v].length=1∧E (.ref C) none H2):=by
 intro pins s1 σ H1 D I h
 have O:=qt (newId := "ValueError.__new__") (bmB:=gZ) (mg:=mg) (x:=x) I.ok.mod.kin hc.at_ hc.exc
 obtain⟨tl,Nn,nm,q,bs,hdct,sn,sub,ab,col,dd,k0,k1,k2,k3,k5,mN,hC,hN,hni,T⟩:=O.obj
 refine wpAny_Raise_call_subT (C:=C) (nm:=nm) (q:=q) (N:=Nn) (bs:=bs) (bm:=tl) (hdct:=hdct) (sn:=sn) (sub:=sub) (ab:=ab) (col:=col) (dd:=dd) (k0:=k0) (k1:=k1) (k2:=k2) (k3:=k3) (k5:=k5)
  PySem.F.excBase_ValueError (mN:=mN) (T.hasType PySem.F.excBase_ValueError.hasBase) (I.ok.hd rfl) (by rw[hst];rfl) hni (ld_glob I hg hc.at_ ⟨rfl,?_⟩ hd)
 have hPA:=(pa_cons he pa_nil hst) cpos pins s1 σ H1 (fun vs H2=>vs.length=1∧E (.ref C) none H2) I h
 rw[hst] at hPA ⊢
 refine Calls.evalArgs_plain (wpAny_mono hPA (fun vs s₂ h₂=>?_) fun _ _ y=>y)
 obtain⟨ws,H2,I2,rv,l1,qE⟩:=h₂
 have lv:vs.length=1:=by rw[←rv.length];exact l1
 have kp:∀b o,base.get? b=some o->s₂.heap.get? b=some o:=I2.bk
 exact⟨rfl,by rw[lv];decide,kp _ _ hC,hN.keeps kp,T.keeps kp,fun h' e hm=>G3 I2 hm qE⟩
end
section
variable{X:Cx}{pins:List (Addr×Obj)}{σ:St}{H:Hp}{s:Shared}{h' B:Heap}
theorem Inv.land(I:Inv X pins σ H s)(hc:X.env.cells=[])(hex:X.ex=[])(hB:B.StaysIn s.heap)(hB':B.StaysIn h')(up:s.heap.UpToSlots h')
  (fr:∀b∈X.fs,∃o,s.heap.get? b=some o∧∀vs,o.data≠.fields vs) (ci:∀b,H b≠none->∃o,B.get? b=some o) (cov:∀b o,X.s₀.heap.get? b=some o->b∉X.fs->∃o',B.get? b=some o')
  (cp:∀p∈X.pn++pins,B.get? p.1=some p.2):Inv X pins σ H { s with heap:=h' }:=by
 have nc:∀x c,X.env.cells.lookup x=some c->False:=fun x c e=>by rw[hc] at e;cases e
 obtain⟨m,hn,hl⟩:=I.loc
 have ub:Un X.fs [] X.H₀ H X.s₀.heap s.heap:=by have:=I.base;rw[hex] at this;exact this
 refine⟨I.ok,I.os,I.bare,?_,⟨m,up.ns hn,fun i x v h1 h2 h3=>?_⟩,fun x c e=>(nc x c e).elim,I.free,fun x c e=>(nc x c e).elim,fun p hp=>?_,dg I.hok hB hB' ci,I.len⟩
 ·rw[hex];exact jc ub hB hB' up fr cov
 ·obtain⟨u,r,q⟩:=hl i x v h1 h2 h3
  refine⟨u,r,?_⟩
  rcases q with q | ⟨_,c,e,_⟩
  ·exact .inl q
  ·exact (nc x c e).elim
 ·obtain⟨e,n,ne,nf,d⟩:=I.pin p hp
  exact⟨hB' _ _ (cp p hp),n,ne,nf,d⟩
theorem Inv.gone {i:Nat}{n:Str}{pos:Pos}{M:Model}{A:Around}{E:Value->Shared->Prop}{Q:Unit->Shared->Prop} (I:Inv X pins σ H s) (hN:X.N.Nodup) (hi:X.N[i]?=some n) (hk:X.env.kindOf n=some .local)
  (h:∀s',Inv X pins (σ.set i none) H s'->Q () s'):wpAny M A (do bindName X.env n .none;unbindBehindTheSuite X.env n pos) Q E s:=by
 obtain⟨m,hn,hl⟩:=id I.loc
 have hcls:(X.env.scope.kind==.class || (X.env.scope.kind==.module&&X.env.locals != X.env.globals))=false:=by rw[I.ok.kind];rfl
 have cne:=I.cne
 obtain⟨oL,_,_,hoL,_⟩:=id hn
 refine wpAny_nameGoes_keeps hk hn hcls fun h' v hn' hs=>?_
 refine h _ ⟨I.ok,I.os,I.bare,⟨fun b o e n hb hx=>?_,fun b o e n hb hx=>?_,I.base.free,fun b o e hx=>?_,I.base.tups,I.base.frzs,I.base.tbls⟩,⟨_,hn',fun j y v' e1 e2 e3=>?_⟩,fun y c e=>?_,I.free,I.freeC,fun p hp=>?_,fun b ob e=>?_,by simpa using I.len⟩
 ·exact (hs.2 b (Nat.ne_of_lt (Nat.lt_of_lt_of_le (Heap.lt_size e) I.ok.above))).trans (I.base.keep b o e n hb hx)
 ·obtain⟨sl,e1⟩:=I.base.slot b o e n hb hx
  exact⟨sl,(hs.2 b (Nat.ne_of_lt (Nat.lt_of_lt_of_le (Heap.lt_size e) I.ok.above))).trans e1⟩
 ·obtain⟨o',e1⟩:=I.base.there b o e hx
  exact⟨o',(hs.2 b (Nat.ne_of_lt (Nat.lt_of_lt_of_le (Heap.lt_size e) I.ok.above))).trans e1⟩
 ·have hj:j≠i:=fun z=>by
   subst z
   have hlt:j<σ.length:=by rw[I.len];exact (List.getElem?_eq_some_iff.mp hi).1
   rw[List.getElem?_set_self hlt] at e2
   cases e2
  rw[List.getElem?_set_ne (Ne.symm hj)] at e2
  obtain⟨u',r',q⟩:=hl j y v' e1 e2 e3
  refine⟨u',r',?_⟩
  rcases q with ⟨k,e⟩ | ⟨k,c,e,z⟩
  ·refine .inl ⟨k,?_⟩
   have:y≠n:=fun e=>hj (nodup_ix hN e1 (e ▸ hi))
   simp[this,e]
  ·exact .inr ⟨k,c,e,z.sameBut hs (cne y c e)⟩
 ·obtain⟨w',z⟩:=I.cell y c e
  exact⟨w',z.sameBut hs (cne y c e)⟩
 ·obtain⟨e,n,ne,nf,d⟩:=I.pin p hp
  exact⟨(hs.2 p.1 ne).trans e,n,ne,nf,d⟩
 ·refine (I.hok b ob e).stay (fun c w' hc q=>(hs.2 c ?_).trans q) (fun _ q=>q) fun _ _ q=>q
  rintro rfl
  rcases hc with hc | hc
  ·rw[←hc,I.free] at e;cases e
  ·rw[I.free] at hc;cases hc
end
def JF (X:Cx) (pins:List (Addr×Obj)) (Eh:XK):Value->Shared->Prop:=fun e s'=>
 ∃(σ':St) (H':Hp) (x:Addr) (C a0:Value) (B:Heap),e=.ref x∧Inv X pins σ' H' s'∧Heap.FlyingW B X.stack x C a0 s'.heap∧(∀b,H' b≠none->∃o,B.get? b=some o) ∧
   (∀b o,X.s₀.heap.get? b=some o->b∉X.fs->∃o',B.get? b=some o')∧(∀p∈X.pn++pins,B.get? p.1=some p.2)∧Eh C none H'
abbrev Cx.tryC(X:Cx)(pins:List (Addr×Obj))(Eh:XK):Cx:={ X with pn:=X.pn++pins,xe:=JF X pins Eh }
abbrev Cx.sui(X:Cx)(x:Addr)(oe:Obj):Cx:={ X with A:=X.A.mark (some (.ref x)),calm:=false,pn:=X.pn++[(x,oe)],xe:=fun _ _=>False }
section
variable{X:Cx}{pins:List (Addr×Obj)}{σ:St}{H:Hp}{s:Shared}{Eh:XK}{P:Program}{w:World}
theorem Inv.toTry(I:Inv X pins σ H s):Inv (X.tryC pins Eh) [] σ H s:=
 ⟨⟨I.ok.mod,I.ok.kind,I.ok.glob,I.ok.blt,I.ok.above,I.ok.inj,I.ok.has,I.ok.cab,I.ok.hd,I.ok.frames,I.ok.stk,I.ok.exf,I.ok.bs,I.ok.bsz,I.ok.noex,I.ok.exfs,I.ok.funs,I.ok.frf⟩,I.os,I.bare,I.base,I.loc,I.cell,I.free,I.freeC,fun p hp=>I.pin p (by simpa using hp),I.hok,I.len⟩
theorem Inv.ofTry{pins2:List (Addr×Obj)}(I:Inv (X.tryC pins Eh) pins2 σ H s):Inv X pins σ H s:=
 ⟨⟨I.ok.mod,I.ok.kind,I.ok.glob,I.ok.blt,I.ok.above,I.ok.inj,I.ok.has,I.ok.cab,I.ok.hd,I.ok.frames,I.ok.stk,I.ok.exf,I.ok.bs,I.ok.bsz,I.ok.noex,I.ok.exfs,I.ok.funs,I.ok.frf⟩,I.os,I.bare,I.base,I.loc,I.cell,I.free,I.freeC,fun p hp=>I.pin p (List.mem_append_left _ hp),I.hok,I.len⟩
theorem Inv.toSui {x:Addr}{oe:Obj} (I:Inv X pins σ H s) (h:s.heap.get? x=some oe∧H x=none∧x≠X.env.locals∧x∉X.fs∧∀ v,oe.data≠.cell v):Inv (X.sui x oe) pins σ H s:=
 ⟨⟨I.ok.mod,I.ok.kind,I.ok.glob,I.ok.blt,I.ok.above,I.ok.inj,I.ok.has,I.ok.cab,fun z=>(by cases z),I.ok.frames,I.ok.stk,I.ok.exf,I.ok.bs,I.ok.bsz,I.ok.noex,I.ok.exfs,I.ok.funs,I.ok.frf⟩,I.os,I.bare,I.base,I.loc,I.cell,I.free,I.freeC,fun p hp=>by
  rcases List.mem_append.mp hp with hp | hp
  ·rcases List.mem_append.mp hp with hp | hp
   ·exact I.pin p (List.mem_append_left _ hp)
   ·cases List.mem_singleton.mp hp;exact h
  ·exact I.pin p (List.mem_append_right _ hp),I.hok,I.len⟩
theorem Inv.ofSui{x:Addr}{oe:Obj}(ok:X.Ok)(I:Inv (X.sui x oe) pins σ H s):Inv X pins σ H s:=
 ⟨ok,I.os,I.bare,I.base,I.loc,I.cell,I.free,I.freeC,fun p hp=>I.pin p (by
  rcases List.mem_append.mp hp with hp | hp
  ·exact List.mem_append_left _ (List.mem_append_left _ hp)
  ·exact List.mem_append_right _ hp),I.hok,I.len⟩
theorem Hx (hex:X.ex=[]) (hP:X.prog=P) (hw:X.w=w):Passes (bw P w) (X.tryC pins Eh) Eh:=by
 subst hP hw
 intro pins2 σ H1 s1 e s' I hf
 obtain⟨x,C,a0,H',B,rfl,os,bare,un,hok,fl,ci,cii,q⟩:=hf
 have J:Inv (X.tryC pins Eh) pins2 σ H' s':=I.call' (ch:=[]) os un hok bare (fun b z=>absurd z (by simp))
 have J':=J.ofTry
 have cp:∀p∈X.pn++pins,B.get? p.1=some p.2:=fun p hp=>by
  obtain⟨e1,n1,ne1,nf1,d1⟩:=I.ofTry.pin p hp
  obtain⟨e2,_⟩:=J'.pin p hp
  obtain⟨o',e3⟩:=cii p.1 p.2 e1 (fun hm=>by
   rcases List.mem_cons.mp (I.ofTry.stkSub _ hm) with z | z
   ·exact ne1 z
   ·exact nf1 z)
  have:=fl.1 _ _ e3
  rw[e2] at this;cases this
  exact e3
 have cov:∀b o,X.s₀.heap.get? b=some o->b∉X.fs->∃o',B.get? b=some o':=fun b o e hb=>by
  obtain⟨o1,h1⟩:=I.base.there b o e (by show b∉X.ex;rw[hex];simp)
  refine cii b o1 h1 fun hm=>?_
  rcases List.mem_cons.mp (I.ofTry.stkSub _ hm) with z | z
  ·exact absurd (Heap.lt_size e) (by rw[z];exact Nat.not_lt.mpr I.ok.above)
  ·exact hb z
 exact⟨σ,H',x,C,a0,B,rfl,J',fl,ci,cov,cp,q⟩
end
section
variable{M:Model}{A:Around}{E:Value->Shared->Prop}
variable{nm q:Str}{C N:Addr}{bs bm:List Value}{hdct:Bool}{sn:List Str}{sub:List Value}{ab:Bool}{col:Option Bool}{dd:Option Addr}{k0 k1 k2 k3 k5:Option Value}{newId:String}
variable{nm' q':Str}{C' N':Addr}{bs' bm':List Value}{hdct':Bool}{sn':List Str}{sub':List Value}{ab':Bool}{col':Option Bool}{dd':Option Addr}{j0 j1 j2 j3 j5:Option Value}{newId':String}
theorem pY{h:Heap}{g:Array GenState}{d:Drawn}{t:Nat}{os:OsState}{e:Addr}{oe:Obj}{Q:Bool->Shared->Prop}
  (hC:h.get? C=some (excClassObj nm q C N bs bm hdct sn sub ab col dd k0 k1 k2 k3 k5 newId)) (hC':h.get? C'=some (excClassObj nm' q' C' N' bs' bm' hdct' sn' sub' ab' col' dd' j0 j1 j2 j3 j5 newId')) (he:h.get? e=some oe) (hcls:oe.cls=.ref C)
  (hbase:bm'.contains (.type "BaseException")=true) (hsub:(Value.ref C::bm).contains (.ref C')=true)
  (hq:Q true ⟨h,g,d,t,os⟩):wpAny M A (excMatches (.ref e) (.ref C')) Q E ⟨h,g,d,t,os⟩:=by
 have hcB:(Value.ref C'::bm').contains (.type "BaseException")=true:=by rw[List.contains_cons,hbase,Bool.or_true]
 have f:=tc_notTuple
 unfold excMatches
 repeat (first | (with_reducible refine wpAny_loadPart_at he ?_;rw[hcls]) | with_reducible refine wpAny_loadPart_at hC' ?_ | (with_reducible refine wpAny_isSubtype_exc hC' ?_;rw[hcB]) | (with_reducible refine wpAny_isSubtype_exc hC ?_;rw[hsub]) | wp_step)
 all_goals exact hq
end
structure Catches(K:PySem.W.Frag)(C F:Addr):Prop where
 exc:PySem.W.excIn K C gZ "ValueError.__new__"=true
 excF:PySem.W.excIn K F gZ "ValueError.__new__"=true
 sub:PySem.W.mroIn K C (.ref F)=some true
theorem wA {K:PySem.W.Frag}{M:Model}{A:Around}{E:Value->Shared->Prop}{s:Shared}{C F e:Addr}{oe:Obj}{Q:Bool->Shared->Prop} (X:K.In s.heap) (c:Catches K C F) (he:s.heap.get? e=some oe) (hcls:oe.cls=.ref C) (hq:Q true s) :
  wpAny M A (excMatches (.ref e) (.ref F)) Q E s:=by
 obtain⟨bm,N,nm,q,bs,hdct,sn,sub,ab,col,dd,k0,k1,k2,k3,k5,mN,hC,hN,hni,T⟩:=(qt (mg:=fun _=>some (.ref C)) (x := "x") X rfl c.exc).obj
 obtain⟨bm',N',nm',q',bs',hdct',sn',sub',ab',col',dd',j0,j1,j2,j3,j5,mN',hC',hN',hni',T'⟩:=(qt (mg:=fun _=>some (.ref F)) (x := "x") X rfl c.excF).obj
 have hsub:(Value.ref C::bm).contains (.ref F)=true:=by
  have h1:=c.sub
  unfold PySem.W.mroIn at h1
  obtain⟨cd,a,b⟩:=Option.bind_eq_some_iff.mp h1
  unfold PySem.W.clsIn at a
  split at a
  ·rename_i c' d' cd' sl' ho
   have:=X _ _ ho
   rw[hC] at this
   cases this
   cases a
   split at b
   ·cases b
   ·exact Option.some.inj b
  ·cases a
 obtain⟨hp,g,d,tk,os⟩:=s
 exact pY hC hC' he hcls (T'.hasType PySem.F.excBase_ValueError.hasBase) hsub hq
def Jw(X:Cx)(i:Nat)(F:Addr)(Eh:XK)(tb:TS)(th:Addr->Obj->TS):TS:=fun D σ H=>
 tb D σ H∧∀(x:Addr) (oe:Obj) (C:Value) (H1:Hp),oe.cls=C->(∃vs,oe.data=.fields vs)->Eh C none H1->(∃c,C=.ref c∧Catches X.K c F) ∧
  th x oe { D with nx:=fun σ' H'=>D.nx (σ'.set i none) H',bk:=fun σ' H'=>D.bk (σ'.set i none) H',ct:=fun σ' H'=>D.ct (σ'.set i none) H' } ((List.replicate X.N.length none).set i (some (.ref x))) H1
theorem Gs {X:Cx}{Eh:XK}{tb:TS}{th:Addr->Obj->TS}{x n:Str}{F:Addr}{i:Nat}{body suite:List Stmt}{b₀:Stmt}{np p1 pos:Pos} (hcalm:X.calm=true) (hcells:X.env.cells=[]) (hex:X.ex=[])
  (hst:X.stack=X.env::X.outer) (hfr:X.env.frame=some X.env.locals) (hN:X.N.Nodup) (hi:X.N[i]?=some n) (hk:X.env.kindOf n=some .local) (hm:X.mg x=some (.ref F))
  (hb:∀pins,PSs (X.tryC pins Eh) body tb) (hs:∀y oe,PSs (X.sui y oe) (b₀::suite) (th y oe)) (hg:Gl X x:=by rfl) (hd:(x==("__debug__":Str))=false:=by decide) :
  PS X (.Try body [.ExceptHandler (some (.Name x np)) (some n) (b₀::suite) p1] [] [] pos) (Jw X i F Eh tb th):=by
 intro pins s σ H D I h
 obtain⟨h1,h2⟩:=h
 have Iw:∀{f:Flow}{s':Shared},SP (X.tryC pins Eh) [] D f s'->SP X pins D f s':=fun {f s'} z=>by
  cases f with
  |next=>obtain⟨σ',H',J,q⟩:=z;exact⟨σ',H',J.ofTry,q⟩
  |brk=>obtain⟨σ',H',J,q⟩:=z;exact⟨σ',H',J.ofTry,q⟩
  |cont=>obtain⟨σ',H',J,q⟩:=z;exact⟨σ',H',J.ofTry,q⟩
  |ret u=>obtain⟨v,σ',H',J,r,q⟩:=z;exact⟨v,σ',H',J.ofTry,r,q⟩
 refine wpAny_Try_except (wpAny_mono ((hb pins) [] s σ H D I.toTry h1) (fun f s₁ hf=>?_) fun e s₁ he=>?_)
 ·have hf':=Iw hf
  cases f with
  |next=>exact wpAny_execs_nil hf'
  |brk=>exact hf'
  |cont=>exact hf'
  |ret u=>exact hf'
 obtain⟨σ',H',y,C,a0,B,rfl,J,fl,ci,cov,cp,q⟩:=he
 have hfrs:X.A.frames=some (X.env::X.outer):=by rw[I.ok.frames,hst]
 rw[hst] at fl
 have fr:∀b∈X.fs,∃o,s₁.heap.get? b=some o∧∀vs,o.data≠.fields vs:=fun b hb=>(fl.2.2.1.2.2.mem hb).2
 refine wpAny_looks_onW hfrs hfr fl fun h₄ held up₄=>?_
 refine wpAny_landsW held fun h₅ fl₅ up₅=>?_
 have J₅:Inv X pins σ' H' { s₁ with heap:=h₅ }:=J.land hcells hex fl.1 fl₅.1 (up₄.trans up₅) fr ci cov cp
 obtain⟨ob,wb,hob,hobc,hobd,_⟩:=fl₅.first
 refine wpAny_handleBy_cons (codeAny_handlers_test ?_) (by intro z;cases z)
 have K₅:∀{E:Value->Shared->Prop}{Q:Value->Shared->Prop},Q (.ref F) { s₁ with heap:=h₅ }->wpAny (model X.prog X.w) (X.A.mark (some (.ref y))) (eval (.Name x np) X.env) Q E { s₁ with heap:=h₅ }:=fun hQ=>
  Calls.Name_function_global I.ok.kind hg (by
   have g5:h₅.Ns X.env.globals X.mg:=by rw[I.ok.glob];exact I.ok.mod.glob.keeps J₅.bk
   exact Calls.loadGlobal_global g5 hm hQ) hd
 refine K₅ ?_
 obtain⟨⟨c,hCc,cat⟩,_⟩:=h2 y ob C H' hobc ⟨_,hobd⟩ q
 subst hCc
 refine wA J₅.kIn cat hob hobc ?_
 refine codeAny_handlers_suite_as ?_
 refine lands_againW fl₅ fun h₆ fl₆ up₆=>?_
 have fr₅:∀b∈X.fs,∃o,h₅.get? b=some o∧∀vs,o.data≠.fields vs:=fun b hb=>(fl₅.2.2.1.2.2.mem hb).2
 have fr₆:∀b∈X.fs,∃o,h₆.get? b=some o∧∀vs,o.data≠.fields vs:=fun b hb=>(fl₆.2.2.1.2.2.mem hb).2
 have J₆:Inv X pins σ' H' { s₁ with heap:=h₆ }:=J₅.land (s:={ s₁ with heap:=h₅ }) hcells hex fl₅.1 fl₆.1 up₆ fr₅ ci cov cp
 have J₇:Inv X pins (List.replicate X.N.length none) H' { s₁ with heap:=h₆ }:=J₆.weak (by rw[J₆.len];simp) fun i v z=>by
  rw[List.getElem?_replicate] at z
  split at z<;>cases z
 obtain⟨oe,ws,hoe,hoec,hoed,hoe0⟩:=fl₆.first
 obtain⟨m,⟨oL,es,ep,hoL,hdL,_⟩,_⟩:=id J₇.loc
 have ynL:y≠X.env.locals:=fun z=>by rw[z] at hoe;rw[hoL] at hoe;cases hoe;rw[hdL] at hoed;cases hoed
 have ynf:y∉X.fs:=fun z=>by
  obtain⟨o,ho,nf⟩:=fr₆ y z
  rw[hoe] at ho;cases ho
  exact nf _ hoed
 have yH:H' y=none:=by
  cases z:H' y with
  |none=>rfl
  |some o=>
    obtain⟨o',e'⟩:=ci y (by rw[z];simp)
    rw[fl.2.1] at e';cases e'
 refine store_ok2 (v:=.ref y) J₇ hN hi (.inl hk) rfl (fun s' I' hsb=>?_) (.inr hk)
 obtain⟨a,hsb,ha⟩:=hsb
 have ha':a=X.env.locals:=by
  rcases ha with ha | ha
  ·exact ha
  ·rw[hcells] at ha;cases ha
 subst ha'
 have hoe':s'.heap.get? y=some oe:=(hsb.2 y ynL).trans hoe
 have IS:=I'.toSui (x:=y) (oe:=oe) ⟨hoe',yH,ynL,ynf,fun v z=>by rw[hoed] at z;cases z⟩
 refine wpAny_mono ((hs y oe) pins s' _ H' _ IS (h2 y oe (.ref c) H' hoec ⟨_,hoed⟩ q).2) (fun f s₃ hf=>?_) fun _ _ z=>z.elim
 cases f with
 |next=>
   obtain⟨σ2,H2,J2,q2⟩:=hf
   exact (J2.ofSui I.ok).gone hN hi hk fun s4 J4=>⟨_,H2,J4,q2⟩
 |brk=>
   obtain⟨σ2,H2,J2,q2⟩:=hf
   exact (J2.ofSui I.ok).gone hN hi hk fun s4 J4=>⟨_,H2,J4,q2⟩
 |cont=>
   obtain⟨σ2,H2,J2,q2⟩:=hf
   exact (J2.ofSui I.ok).gone hN hi hk fun s4 J4=>⟨_,H2,J4,q2⟩
 |ret u=>
   obtain⟨v,σ2,H2,J2,r2,q2⟩:=hf
   exact (J2.ofSui I.ok).gone hN hi hk fun s4 J4=>⟨v,_,H2,J4,r2,q2⟩
structure XAt(K:PySem.W.Frag)(D:Addr):Prop where
 ga:PySem.W.findIn K (.ref D) "__getattribute__"=some (some (.builtin "BaseException.__getattribute__"))
 gn:PySem.W.findIn K (.ref D) "__getattr__"=some none
 gc:PySem.W.findIn K (.ref D) "__class__"=some (some (.builtin "object.__class__"))
 mo:PySem.W.mroIn K D (.type "object")=some true
 mb:PySem.W.mroIn K D (.type "BaseException")=some true
section
variable{prog:Program}{w:World}{A:Around}{E:Value->Shared->Prop}{h:Heap}{g:Array GenState}{d:Drawn}{t:Nat}{os:OsState}{x D:Addr}{oe:Obj}{K:PySem.W.Frag}
theorem xZ{M:Model}(hx:h.get? x=some oe)(hc:oe.cls=.ref D):PySem.W.Looks M h (typeOf (.ref x)) (.ref D):=hc ▸ (PySem.W.Looks.ld hx).andThen .now
open PySem.W Builtin.Getset_descriptor Builtin.ObjectAttr Builtin in
theorem vW{R:Result->Shared->Prop}{tp:Value}(X:K.In h)(hx:h.get? x=some oe)(hc:oe.cls=.ref D)(hm:mroIn K D (.type "object")=some true)
  (hR:R (.ok (.ret (.ref D))) ⟨h,g,d,t,os⟩):codeAny (model prog w) A (.call (.builtin "getset_descriptor.__get__") ⟨[.builtin "object.__class__",.ref x,tp],[]⟩) R ⟨h,g,d,t,os⟩:=by
 have Lty:=xZ (M:=model prog w) hx hc
 have Lmr:=looks_mroIn (M:=model prog w) X hm
 refine codeAny_call_builtin KF.slot_gs.plain KF.entry_gs (KF.slot_gs.check _ _ _ _ _ _ _ _ KF.type_class (KF.args_gs _ _ _) ?_)
 (unfold Builtin.«getset_descriptor.__get__» descrGet;rw[dga_obj];refine wpAny_bind (wpAny_pure ?_))
 (unfold descrGetter descrCheckInstance descrNameAndClass isInstance;simp only[KF.owner_class];repeat lk)
 refine⟨Code.quiet_builtin _ (by decide +kernel),codeAny_builtin KF.entry_class ?_⟩
 (unfold Builtin.«object.__class__» shownTypeOf;repeat lk)
 all_goals first | exact hR | assumption
theorem uA{tk:Tok}{Q:Fin->Shared->Prop}(X:K.In h)(T:XAt K D)(hx:h.get? x=some oe)(hc:oe.cls=.ref D)(hq:Q (.done (.ret (.ref D))) ⟨h,g,d,t,os⟩) :
  wpAny (model prog w) A (Builtin.«object.__getattribute__» ⟨[.ref x,.str "__class__" tk],[]⟩) Q E ⟨h,g,d,t,os⟩:=by
 have tyc:(⟨h,g,d,t,os⟩:Shared).TypeIs (.builtin "object.__class__") "getset_descriptor":=F.typeOf_object_class
 have u5:=F.typeOf_object_class
 have u6:=F.slot_gs_get.lookup
 have u7:=F.slot_gs_set.lookup
 have Lc:=PySem.W.looks_findIn (M:=model prog w) X T.gc
 repeat (any_goals (first | assumption | (with_reducible refine wpAny_loadPart_at hx ?_;rw[hc]) | with_reducible refine Lc.at ?_ | wp_step))
 refine vW X hx hc T.mo ?_
 repeat (any_goals (first | wp_step | assumption))
theorem zU{M:Model}{nameV:Value}{Q:Unit->Shared->Prop}(X:K.In h)(T:XAt K D)(hx:h.get? x=some oe)(hc:oe.cls=.ref D)(hq:Q () ⟨h,g,d,t,os⟩) :
  wpAny M A (checkBuiltinCall "BaseException.__getattribute__" ⟨[.ref x,nameV],[]⟩) Q E ⟨h,g,d,t,os⟩:=by
 have bk:builtinKind "BaseException.__getattribute__"=some .slot:=by decide +kernel
 have spl:splitId "BaseException.__getattribute__"=some ("BaseException", "__getattribute__"):=by decide +kernel
 have ha:=F.args_bexc_ga (.ref x) nameV
 have Lb:=PySem.W.looks_mroIn (M:=M) X T.mb
 simp only[checkBuiltinCall,bk,spl]
 refine wpAny_bind ?_
 ·unfold isInstance
  repeat (first | (with_reducible refine wpAny_loadPart_at hx ?_;rw[hc]) | with_reducible refine Lb.at ?_ | wp_step)
  exact hq
theorem vV{tk:Tok}{R:Result->Shared->Prop}(X:K.In h)(T:XAt K D)(hx:h.get? x=some oe)(hc:oe.cls=.ref D)(hq:R (.ok (.ret (.ref D))) ⟨h,g,d,t,os⟩) :
  codeAny (model prog w) A (.call (.builtin "BaseException.__getattribute__") ⟨[.ref x,.str "__class__" tk],[]⟩) R ⟨h,g,d,t,os⟩:=
 codeAny_call_builtin F.attrBase_ValueError.ga.plain F.entry_bexc_ga (zU X T hx hc (uA X T hx hc hq))
theorem zV{tk:Tok}{fill expr:Bool}{Q:Value->Shared->Prop}(X:K.In h)(T:XAt K D)(hx:h.get? x=some oe)(hc:oe.cls=.ref D)(hq:Q (.ref D) ⟨h,g,d,t,os⟩) :
  wpAny (model prog w) A (getAttrBy (.ref x) (.str "__class__" tk) fill expr) Q E ⟨h,g,d,t,os⟩:=by
 have u3:=F.attrBase_ValueError.ga.bind (.ref x)
 have ex0:(expr&&onTheHeap (Value.builtin "BaseException.__getattribute__"))=false:=by cases expr<;>rfl
 have ex2:(Value.builtin "BaseException.__getattribute__"==Value.builtin "object.__getattribute__")=false:=by decide +kernel
 have ex1:(onTheHeap (Value.ref D)&&Value.builtin "BaseException.__getattribute__"==Value.builtin "object.__getattribute__")=false:=by rw[ex2];rfl
 have L1:=PySem.W.looks_findIn (M:=model prog w) X T.ga
 have L2:=PySem.W.looks_findIn (M:=model prog w) X T.gn
 repeat (any_goals (first | assumption | (with_reducible refine wpAny_loadPart_at hx ?_;rw[hc]) | with_reducible refine L1.at ?_ | with_reducible refine L2.at ?_ | wp_step))
 refine vV X T hx hc ?_
 repeat (any_goals (first | wp_step | assumption))
theorem oM{Q:Option Value->Shared->Prop}(X:K.In h)(T:XAt K D)(hx:h.get? x=some oe)(hc:oe.cls=.ref D)(hq:Q (some (.ref D)) ⟨h,g,d,t+1,os⟩) :
  wpAny (model prog w) A (getAttr? (.ref x) "__class__") Q E ⟨h,g,d,t,os⟩:=by
 unfold getAttr? getAttrBy?
 refine wpAny_bind (wpAny_mkText (wpAny_bind (wpAny_attempt (zV X T hx hc ?_))))
 repeat (any_goals (first | wp_step | assumption))
end
theorem Ak {K:PySem.W.Frag}{x D:Addr}{oe:Obj} (T:XAt K D) (hc:oe.cls=.ref D) :
  PySem.W.KitX K (.ref x) (.ref D) (fun h=>h.get? x=some oe) where
 ty:=fun _ _ _ I=>xZ I hc
 it:=fun _ _ X _=>by
  have h1:=T.mo
  unfold PySem.W.mroIn at h1
  obtain⟨cd,a,b⟩:=Option.bind_eq_some_iff.mp h1
  unfold PySem.W.clsIn at a
  split at a
  ·rename_i c' d' cd' sl' ho
   intro A' Q' E' s' k q
   unfold isType loadHead
   exact wpAny_bind (wpAny_loadPart (k _ _ (X _ _ ho)) (wpAny_pure q))
  ·cases a
 ne:=fun h tp dd its n sl X htp=>by
  have h1:=T.mo
  unfold PySem.W.mroIn at h1
  obtain⟨cd,a,b⟩:=Option.bind_eq_some_iff.mp h1
  refine Bool.eq_false_iff.mpr fun q=>?_
  cases Value.ref.inj (beq_iff_eq.mp q)
  unfold PySem.W.clsIn at a
  split at a
  ·rename_i c' d' cd' sl' ho
   have z:=(X _ _ ho).symm.trans htp
   cases z
  ·cases a
 ca:=fun {_ _ _ _ _ s} X I k=>by obtain⟨h,g,d,t,os⟩:=s;exact oM X T I hc k
def HH(K:PySem.W.Frag)(y:Addr)(oe:Obj):List V->Hp->VK->Prop:=fun xs H Q=>∃(c:V) (cv:Value) (D:Addr) (b:Bool),xs=[.ref y,c]∧RelV c cv∧(cv=.type "ValueError"∨∃C,cv=.ref C)∧oe.cls=.ref D∧XAt K D∧PySem.W.kitOne K (.ref D) cv=some b∧Q (.bl b) H
theorem RelV.det{c:V}{u v:Value}(r:RelV c u)(q:RelV c v)(h:u=.type "ValueError"∨∃C,u=.ref C):v=u:=by
 cases c with
 |ref a=>cases r;cases q;rfl
 |ty n=>cases r;cases q;rfl
 |non=>cases r;rcases h with h | ⟨C,h⟩<;>cases h
 |bl b=>cases r;rcases h with h | ⟨C,h⟩<;>cases h
 |int i=>obtain⟨t,rfl⟩:=r;rcases h with h | ⟨C,h⟩<;>cases h
 |str i=>obtain⟨t,rfl⟩:=r;rcases h with h | ⟨C,h⟩<;>cases h
 |byt i=>obtain⟨t,rfl⟩:=r;rcases h with h | ⟨C,h⟩<;>cases h
 |flt i=>obtain⟨t,rfl⟩:=r;rcases h with h | ⟨C,h⟩<;>cases h
theorem xM{X:Cx}{y:Addr}{oe:Obj}(hp:(y,oe)∈X.pn):CallR X (.builtin "isinstance") (HH X.K y oe):=by
 intro pins s σ H xs us Q I r h
 obtain⟨c,cv,D,b,rfl,rc,hk,hc,T,e,q⟩:=h
 obtain⟨u,w',rfl,r1,r2⟩:=vals2 r
 cases r1
 have:w'=cv:=RelV.det rc r2 hk
 subst this
 exact PySem.W.kia_one (Ak T hc) I.kIn (I.pin (y,oe) (List.mem_append_left _ hp)).1 e (fun z=>nomatch z) fun tk=>⟨.bl b,H,I.tok _,rfl,q⟩
theorem Gm{X:Cx}{x:Str}{C:Addr}{pos:Pos}(h:X.mg x=some (.ref C))(hg:Gl X x:=by rfl)(hd:(x==("__debug__":Str))=false:=by decide):PE X (.Name x pos) (tC (.ref C)):=pe_glob hg h rfl hd
def pick(js:List Nat)(σ:St):St:=js.map fun j=>(σ[j]?).getD none
theorem uw{fs ex:List Addr}{H H':Hp}{h0 h h':Heap}{C:Addr}(u:Un fs ex H H' h0 h)(hs:Heap.SameBut C h h')(hC:h0.objs.size≤C):Un fs ex H H' h0 h' where
 keep b o e n hb hx:=(hs.2 b (Nat.ne_of_lt (Nat.lt_of_lt_of_le (Heap.lt_size e) hC))).trans (u.keep b o e n hb hx)
 slot b o e n hb hx:=by
  obtain⟨sl,e1⟩:=u.slot b o e n hb hx
  exact⟨sl,(hs.2 b (Nat.ne_of_lt (Nat.lt_of_lt_of_le (Heap.lt_size e) hC))).trans e1⟩
 free:=u.free
 there b o e hx:=by
  obtain⟨o',e1⟩:=u.there b o e hx
  exact⟨o',(hs.2 b (Nat.ne_of_lt (Nat.lt_of_lt_of_le (Heap.lt_size e) hC))).trans e1⟩
 tups:=u.tups
 frzs:=u.frzs
 tbls:=u.tbls
theorem pZ {P:Program}{w:World}{H:Hp}{h h':Heap}{C:Addr} (ok:HOk P w H h) (hs:Heap.SameBut C h h') (hC:H C=none):HOk P w H h':=fun b ob e=>
 (ok b ob e).stay (fun c w' hc q=>(hs.2 c (by
   rintro rfl
   rcases hc with hc | hc
   ·rw[←hc,hC] at e;cases e
   ·rw[hC] at hc;cases hc)).trans q) (fun _ q=>q) fun _ _ q=>q
structure DefC(P:Program)(w:World)(K:PySem.W.Frag)(mg:Str->Option Value)(base:Heap)(k:Nat)(x:Str)(ps:List Str)(sp:Sp):Prop where
 ex:∃f fd,FnOk P w K mg base (bw P w) k f fd ps sp∧Binds K fd ps []∧PySem.W.keepIn K (.ref f)=true∧mg x=some (.ref f)
section
variable{P:Program}{w:World}{K:PySem.W.Frag}{mg:Str->Option Value}{base:Heap}{k:Nat}{x:Str}{N ps:List Str}{sp:Sp}{st:Stmt}
theorem JL {f:Addr}{fd:FuncData} (F:Fun K x x st f fd) (S:FnScope N ps (defScope st)) (len:∀ vs H Q E,sp vs H Q E->vs.length=ps.length)
  (hbody:∀(cdv:Value) (A:Around) (outer:List Env) (s:Shared) (H:Hp) (vs:List V) (Q:VK) (E:XK),Room k (A.deeper (envOfC x (defScope st) s.heap.objs.size f cdv))->sp vs H Q E->
    ∃t,PSs (aH P w K mg base N x (defScope st) f cdv A outer s H E) (defBody st) t∧t { nx:=fun _ H'=>Q .non H',rt:=Q } (start N vs) H):FnOk P w K mg base (bw P w) (k+1) f fd ps sp:=by
 obtain⟨oc,od,kV,doc,pm,an,cdv,ct,osl,rfl,l,c⟩:=F.ex
 exact fn_of l c S len (hbody cdv)
theorem DefAt.okE (D:DefAt K mg x st) (S:FnScope N ps (defScope st)) (hb:∀ (kV doc pm:Value) (an:Option Addr) (cdv ct:Value) (us:List Value),us.length=ps.length->bindArgs (PySem.W.fnOf x x (defArgs st) (defBody st) (defScope st) .none kV doc pm an cdv ct) ⟨us,[]⟩=pure (ps.zip us))
  (len:∀vs H Q E,sp vs H Q E->vs.length=ps.length)
  (hbody:∀(f:Addr) (cdv:Value) (A:Around) (outer:List Env) (s:Shared) (H:Hp) (vs:List V) (Q:VK) (E:XK),Room k (A.deeper (envOfC x (defScope st) s.heap.objs.size f cdv))->sp vs H Q E->
    ∃t,PSs (aH P w K mg base N x (defScope st) f cdv A outer s H E) (defBody st) t∧t { nx:=fun _ H'=>Q .non H',rt:=Q } (start N vs) H):DefC P w K mg base (k+1) x ps sp:=by
 obtain⟨f,fd,F,m⟩:=D.ex
 exact⟨f,fd,JL F S len (hbody f),F.binds hb,F.kp,m⟩
end
theorem tY{P:Program}{w:World}{X:Cx}:Passes (bw P w) X E0:=fun _ _ _ _ _ _ _ h=>by
 obtain⟨_,_,_,_,_,_,_,_,_,_,_,_,_,q⟩:=h
 exact q.elim
section
variable{X:Cx}{j k:Nat}{ps:List Str}{sp:Sp}{x:Str}{p pos:Pos}{e:Expr}{es:List Expr}{t:TA}{E:XK}
theorem Ax(D:DefC X.prog X.w X.K X.mg X.base j x ps sp)(hr:Room k X.A)(hx:Passes (bw X.prog X.w) X E)(ha:PA X (e::es) t)(hjk:j≤k:=by decide)(hg:Gl X x:=by rfl)(hdb:(x==("__debug__":Str))=false:=by decide)
  (he:starEach (e::es) X.env=(false,eval e X.env)::starEach es X.env:=by rfl) (hpl:(backTo pos (starEach es X.env)).any (·.1)=false:=by rfl) :
  PE X (.Call (.Name x p) (e::es) [] pos) (tCall sp [] E t):=by
 obtain⟨f,fd,F,b,kp,m⟩:=D.ex
 exact pe_call F (hr.mono hjk) hg m kp b .nil hx ha hdb he hpl
end
end L2
namespace HT
open PySem PySem.Spec PyProof.Rows PySem.W
section
variable{prog:Program}{w:World}{A:Around}{E:Value->Shared->Prop}{s:Shared}
theorem zR {t b:Addr}{vs ws:List Value}{Q:Value->Shared->Prop} (ht:IsTup s.heap t vs.toArray) (hb:IsTup s.heap b ws.toArray) (hv:vs=[])
  (h1:Q (.ref b) s):wpAny (model prog w) A (binaryOp .Add (.ref t) (.ref b)) Q E s:=by
 obtain⟨⟨cls,dd,data,sl⟩,ho,hc,n,hd⟩:=id ht
 obtain⟨⟨cls2,dd2,data2,sl2⟩,ho2,hc2,n2,hd2⟩:=id hb
 simp only at hc hd hc2 hd2
 subst hc hd hc2 hd2
 exact concat_meets ⟨_,ho,rfl⟩ ⟨_,ho2,rfl⟩ noFill_tuple_add seq_tuple_add PySem.F.slot_tuple_add PySem.F.entry_tuple_add (PySem.F.args_tuple_add_2 _ _)
   (tuple_addW0 t b vs.toArray ws.toArray n n2 dd dd2 sl sl2 (by simp[hv])) ⟨ho,ho2,h1⟩
theorem mK{t sl:Addr}{items:Array Value}{vl vu:Value}{lo hi:Option Int}{Q:Value->Shared->Prop}(ht:IsTup s.heap t items)(hs:s.heap.IsSliceOf sl vl vu .none)(pl:IsPart vl lo)(pu:IsPart vu hi)
  (hw:sIx items.size 0 lo=0∧sIx items.size items.size hi=items.size) (h:Q (.ref t) s):wpAny (model prog w) A (getItem (.ref t) (.ref sl)) Q E s:=by
 obtain⟨os,hos,hcs,hds⟩:=id hs
 obtain⟨ot,hot,hct,nt,hdt⟩:=id ht
 have hTs:s.TypeIs (.ref sl) "slice":=⟨os,hos,hcs⟩
 have hTt:s.TypeIs (.ref t) "tuple":=⟨ot,hot,hct⟩
 unfold getItem
 try with_reducible refine wpAny_holding ?_
 first | refine wpAny_bind (wpAny_pure ?_) | skip
 refine wpAny_bind (wpAny_sequenceKey ht.typeIs (by decide) ?_)
 refine wpAny_bind (wpAny_callSpecial?_slot (name:=Str.ofString "__getitem__") ht.typeIs PyProof.Rows.slot_tuple_getitem
  (wpAny_call_entry PyProof.Rows.slot_tuple_getitem ht.typeIs entry_tuple_getitem ?_ (args_tuple_getitem _ _)))
 show wpAny _ _ (Builtin.Tuple.tupleItemsOf (.ref t)>>=_) _ _ s
 refine wpAny_bind (tupleItemsOf_ ht ?_)
 refine wpAny_bind (wpAny_typeOf hTs ?_)
 rw[if_pos (by decide)]
 refine wpAny_bind (sliceApplied_gen hs pl pu ?_)
 have hno:((((sIx items.size 0 lo:Nat):Int)==0&&(1:Int)==1&&(sIx items.size items.size hi-sIx items.size 0 lo)==items.size)=true):=by
  rw[hw.1,hw.2];simp
 show wpAny _ _ (if (((sIx items.size 0 lo:Nat):Int)==0&&(1:Int)==1&&(sIx items.size items.size hi-sIx items.size 0 lo)==items.size)=true then _ else _) _ _ s
 rw[if_pos hno]
 unfold Builtin.Tuple.tupleIsExact
 refine wpAny_bind ?_
 refine wpAny_bind (wpAny_typeOf hTt (wpAny_pure ?_))
 rw[if_pos (by decide)]
 exact wpAny_bind (wpAny_rule (wpAny_pure ⟨_,rfl,wpAny_pure h⟩))
end
end HT
namespace L2
open PySem PySem.Spec PyProof.Rows
section
variable{X:Cx}
theorem zZ{xs:List V}{lo hi:Option Int}(h:HT.sIx xs.length 0 lo=0∧HT.sIx xs.length xs.length hi=xs.length):cutV xs lo hi=xs:=by
 unfold cutV
 rw[h.1,h.2]
 simp
def Jl:V->Option Int->Option Int->Hp->VK->Prop:=fun x lo hi H Q=>∃a xs,x=.ref a∧H a=some (.tup xs)∧∀p H',Same H H'->H' p=some (.tup (cutV xs lo hi))->Q (.ref p) H'
theorem DQ:SlR X Jl:=by
 intro pins s σ H x v vl vu lo hi sl Q I rx hs pl pu h
 obtain⟨a,xs,rfl,hx,q⟩:=h
 by_cases hw:HT.sIx xs.length 0 lo=0∧HT.sIx xs.length xs.length hi=xs.length
 ·cases rx
  obtain⟨its,r,ht,hz⟩:=I.tuple (SqT.of hx)
  have hlen:its.toArray.size=xs.length:=by rw[List.size_toArray];exact r.length.symm
  refine⟨"tuple",_,PyProof.Rows.slot_tuple_getitem.lookup,ht.typeIs,?_⟩
  refine HT.mK ht hs pl pu (by rw[hlen];exact hw) ⟨.ref a,H,I,rfl,q a H (Same.refl _) (by rw[zZ hw];exact hx)⟩
 ·exact sl_tup (X:=X) pins s σ H _ v vl vu lo hi sl Q I rx hs pl pu ⟨a,xs,rfl,SqT.of hx,hw,fun p hp=>q p _ (same_new hp _) upd_same⟩
def HF:R2:=fun x y H Q=>∃a b xs ys,x=.ref a∧y=.ref b∧H a=some (.tup xs)∧H b=some (.tup ys)∧xs.length+ys.length≤sizeLine∧∀p H',Same H H'->H' p=some (.tup (xs++ys))->Q (.ref p) H'
theorem Dj:OpR X (binaryOp .Add) HF:=by
 intro pins s σ H x y v u Q I rx ry h
 obtain⟨a,b,xs,ys,rfl,rfl,ha,hb,hz,q⟩:=h
 by_cases hx:xs=[]
 ·cases rx
  cases ry
  obtain⟨its,r1,p1,_⟩:=I.tuple (SqT.of ha)
  obtain⟨its2,r2,p2,_⟩:=I.tuple (SqT.of hb)
  exact HT.zR p1 p2 (r1.nil_iff.mpr hx) ⟨.ref b,H,I,rfl,q b H (Same.refl _) (by rw[hx,List.nil_append];exact hb)⟩
 ·exact op_catT (X:=X) pins s σ H _ _ v u Q I rx ry ⟨a,b,xs,ys,rfl,rfl,SqT.of ha,SqT.of hb,hx,hz,fun e=>q a H (Same.refl _) (by rw[e,List.append_nil];exact ha),fun _ p hp=>q p _ (same_new hp _) upd_same⟩
end
mutual
inductive RepF(H:Hp):Bool->V->PyData->Prop
 |non {f:Bool}:RepF H f .non .none
 |bl {f:Bool} (b:Bool):RepF H f (.bl b) (.bool b)
 |int {f:Bool} (i:Int):RepF H f (.int i) (.int i)
 |str {f:Bool} (x:Str):RepF H f (.str x) (.str x)
 |lst {f:Bool}{a:Addr}{xs:List V}{ds:List PyData}:H a=some (.lst xs)->RepsF H f xs ds->RepF H f (.ref a) (.list ds)
 |tup {f:Bool}{a:Addr}{xs:List V}{ds:List PyData}:H a=some (.tup xs)->RepsF H f xs ds->RepF H f (.ref a) (.tuple ds)
 |d0 {a:Addr}:H a=some (.dK [])->RepF H false (.ref a) (.dict [])
 |d1 {a:Addr}{i j:Int}:H a=some (.dK [(.inl i,.int j)])->RepF H false (.ref a) (.dict [(.int i,.int j)])
inductive RepsF(H:Hp):Bool->List V->List PyData->Prop
 |nil {f:Bool}:RepsF H f [] []
 |cons {f:Bool}{v:V}{d:PyData}{vs:List V}{ds:List PyData}:RepF H f v d->RepsF H f vs ds->RepsF H f (v::vs) (d::ds)
end
mutual
/-- the same,away from a -/
theorem RepF.toRep{K:PySem.W.Frag}{H:Hp}:∀{v:V}{d:PyData},RepF H true v d->Rep K H v d
 |_,_,.non=>.non
 |_,_,.bl b=>.bl b
 |_,_,.int i=>.int i
 |_,_,.str x=>.str x
 |_,_,.lst h hs=>.lst (SqL.of h) (RepsF.toReps hs)
 |_,_,.tup h hs=>.tup (SqT.of h) (RepsF.toReps hs)
theorem RepsF.toReps{K:PySem.W.Frag}{H:Hp}:∀{vs:List V}{ds:List PyData},RepsF H true vs ds->Reps K H vs ds
 |_,_,.nil=>.nil
 |_,_,.cons h hs=>.cons (RepF.toRep h) (RepsF.toReps hs)
end
theorem Jj{X:Cx}{x:Str}{T:String}{r:List V->Hp->VK->Prop}{p pos:Pos}{e:Expr}{es:List Expr}{t:TA}(hc:CallR X (.type T) r)(hm:X.mg x=none)(ha:PA X (e::es) t)(hg:Gl X x:=by rfl)(hv:bootBuiltins x=some (.type T):=by decide +kernel)(hn:x≠"__name__":=by decide)(hdb:(x==("__debug__":Str))=false:=by decide)
  (he:starEach (e::es) X.env=(false,eval e X.env)::starEach es X.env:=by rfl) (hpl:(backTo pos (starEach es X.env)).any (·.1)=false:=by rfl) :
  PE X (.Call (.Name x p) (e::es) [] pos) (tCB r t):=pe_callTy hc hg hm hv ha hn hdb he hpl
def notStar:Expr->Bool
 |.Starred _ _=>false
 |_=>true
theorem aX{e:Expr}{es:List Expr}{env:Env}(h:notStar e=true):starEach (e::es) env=(false,eval e env)::starEach es env:=by
 cases e<;>first | rfl | cases h
theorem Gj{X:Cx}{e:Expr}{es:List Expr}{te:TE}{t:TA}(ha:PE X e te)(hr:PA X es t)(hs:notStar e=true:=by rfl):PA X (e::es) (tCons te t):=pa_cons ha hr (aX hs)
structure QI(X:Cx)(tg l:Expr)(wi:TI):Prop where
 h:PI X tg l wi
structure QA(X:Cx)(es:List Expr)(t:TA):Prop where
 h:PA X es t
theorem Gw{X:Cx}:QA X [] tNil:=⟨pa_nil⟩
theorem Jk{X:Cx}{e:Expr}{es:List Expr}{te:TE}{t:TA}(ha:PE X e te)(hr:QA X es t)(hs:notStar e=true:=by rfl):QA X (e::es) (tCons te t):=⟨Gj ha hr.h hs⟩
section
variable{X:Cx}{j k:Nat}{ps:List Str}{sp:Sp}{x:Str}{p pos:Pos}{e:Expr}{es:List Expr}{t:TA}{E:XK}
theorem Dq{x1}(h:QA X es t):PE X (.Tuple es x1 pos) (tTup t):=pe_tup h.h
theorem uZ(h:QA X es t):PE X (.List es pos) (tLst t):=pe_lst h.h
theorem yR(D:DefC X.prog X.w X.K X.mg X.base j x ps sp)(hr:Room k X.A)(hx:Passes (bw X.prog X.w) X E)(ha:QA X (e::es) t)(hjk:j≤k:=by decide)(hg:Gl X x:=by rfl)(hdb:(x==("__debug__":Str))=false:=by decide)
  (he:notStar e=true:=by rfl) (hpl:(backTo pos (starEach es X.env)).any (·.1)=false:=by rfl) :
  PE X (.Call (.Name x p) (e::es) [] pos) (tCall sp [] E t):=Ax D hr hx ha.h hjk hg hdb (aX he) hpl
theorem Hy{id:String}{r:List V->Hp->VK->Prop}(hc:CallR X (.builtin id) r)(hm:X.mg x=none)(ha:QA X (e::es) t)(hg:Gl X x:=by rfl)(hv:bootBuiltins x=some (.builtin id):=by decide +kernel)(hn:x≠"__name__":=by decide)(hdb:(x==("__debug__":Str))=false:=by decide)
  (he:notStar e=true:=by rfl) (hpl:(backTo pos (starEach es X.env)).any (·.1)=false:=by rfl) :
  PE X (.Call (.Name x p) (e::es) [] pos) (tCB r t):=Ji hc hm ha.h hg hv hn hdb (aX he) hpl
theorem HB{T:String}{r:List V->Hp->VK->Prop}(hc:CallR X (.type T) r)(hm:X.mg x=none)(ha:QA X (e::es) t)(hg:Gl X x:=by rfl)(hv:bootBuiltins x=some (.type T):=by decide +kernel)(hn:x≠"__name__":=by decide)(hdb:(x==("__debug__":Str))=false:=by decide)
  (he:notStar e=true:=by rfl) (hpl:(backTo pos (starEach es X.env)).any (·.1)=false:=by rfl) :
  PE X (.Call (.Name x p) (e::es) [] pos) (tCB r t):=Jj hc hm ha.h hg hv hn hdb (aX he) hpl
theorem Gk {T name id:String}{r:V->List V->Hp->VK->Prop}{o:Expr}{to:TE}{apos cpos:Pos} (pa:PlainAttrs T) (slot:Slot T name id) (hty:typeOf (.builtin id)=pure (.type "method_descriptor")) (hm:MtR X id r) (ho:PE X o to) (ha:QA X (e::es) t)
  (hbase:attributeBase o name X.env (eval o X.env)=eval o X.env:=by rfl)
  (hfew:((backTo cpos (starEach (e::es) X.env)).all (fun x=>!x.1)&&(backToKw cpos (keywordEach [] X.env)).all (fun x=>x.1.isSome)
   &&decide ((e::es).length+([]:List Keyword).length+(if ([]:List Keyword).isEmpty then 0 else 1)<30))=true:=by rfl)
  (hline:(apos.endLine==cpos.line)=true:=by rfl) (hs:notStar e=true:=by rfl) (hplain:(backTo cpos (starEach es X.env)).any (·.1)=false:=by rfl) :
  PE X (.Call (.Attribute o name apos) (e::es) [] cpos) (tBM X.K T r to t):=pe_bm pa slot hty hm ho ha.h hbase hfew hline (aX hs) hplain
theorem wJ{tg a:Expr}{ta:TA}(hg:Gl X "range")(hm:X.mg "range"=none)(ha:QA X [a] ta)(hs:notStar a=true:=by rfl):QI X tg (.Call (.Name "range" p) [a] [] pos) (iRng1 ta):=⟨pi_range1 hg hm ha.h (aX hs)⟩
end
open Classical in
noncomputable def hid(L:Addr->Prop)(H:Hp):Hp:=fun b=>if L b then none else H b
def rR{α:Type}(P:α->Prop):List α->Prop
 |[]=>True
 |a::l=>P a∧rR P l
theorem jg {α:Type}{P:α->Prop}:∀ {l:List α},rR P l->∀ a∈l,P a
 |[],_,_,h=>nomatch h
 |b::l,h,a,hm=>by
   rcases List.mem_cons.mp hm with rfl | hm
   ·exact h.1
   ·exact jg h.2 a hm
theorem mem_of_lookup {β:Type}{y:Str}{c:β}:∀ {l:List (Str×β)},l.lookup y=some c->(y,c)∈l
 |[],h=>by cases h
 | (z,d)::l,h=>by
   rw[List.lookup_cons] at h
   split at h
   ·rename_i e
    have e':y=z:=by simpa using e
    cases h
    rw[e'];exact List.mem_cons_self ..
   ·exact List.mem_cons_of_mem _ (mem_of_lookup h)
theorem pO{cl cells:List (Str×Addr)}(h:rR (fun p=>cells.lookup p.1=some p.2) cl):∀y c,cl.lookup y=some c->cells.lookup y=some c:=fun y c e=>jg h (y,c) (mem_of_lookup e)
def Ah:NameKind->Bool
 |.cell | .free=>true
 |_=>false
theorem o5{names:List (Str×NameKind)}{cl:List (Str×Addr)}(h:(names.all fun p=>!Ah p.2 || (cl.lookup p.1).isSome)=true):∀y,(names.lookup y=some .cell∨names.lookup y=some .free)->∃c,cl.lookup y=some c:=fun y e=>by
 have hh:=List.all_eq_true.mp h
 rcases e with e | e
 ·have:=hh _ (mem_of_lookup e)
  simp only[Ah,Bool.not_true,Bool.false_or] at this
  exact Option.isSome_iff_exists.mp this
 ·have:=hh _ (mem_of_lookup e)
  simp only[Ah,Bool.not_true,Bool.false_or] at this
  exact Option.isSome_iff_exists.mp this
theorem o4{js:List Nat}{fr:List Str}{P:Nat->Str->Prop}(h:rR (fun p:Nat×Str=>P p.1 p.2) (js.zip fr)):∀(k j:Nat) (y:Str),js[k]?=some j->fr[k]?=some y->P j y:=fun k j y h1 h2=>by
 refine jg h (j,y) (List.mem_iff_getElem?.mpr ⟨k,?_⟩)
 rw[List.getElem?_zip_eq_some]
 exact⟨h1,h2⟩
section
variable{X:Cx}
theorem Af:entryFor table "tuple_iterator.__iter__"=some Builtin.«dict_keyiterator.__iter__»:=
 entryFor_alias (id' := "dict_keyiterator.__iter__") (by kernel_rfl) rfl (by decide +kernel) (by kernel_rfl)
theorem qi{prog:Program}{w:World}{A:Around}{E:Value->Shared->Prop}{s:Shared}{it t:Addr}{i:Nat}{Q:Value->Shared->Prop}(hit:IsTupIter s.heap it t i)(h:Q (.ref it) s) :
  wpAny (model prog w) A (pyIter (.ref it)) Q E s:=by
 refine wpAny_pyIter_slot hit.typeIs F.slot_tuple_iterator_iter (wpAny_call_entry F.slot_tuple_iterator_iter hit.typeIs Af ?_ (F.args_tuple_iterator_iter_1 _))
 show wpAny _ _ (ret (.ref it)) _ _ s
 exact wpAny_pure ⟨_,rfl, "tuple_iterator",_,hit.typeIs,slot_tupleiter_next.lookup,h⟩
theorem zG{prog:Program}{w:World}{A:Around}(hh:A.handled=none)(I ax:Addr)(hne:ax≠I)(items:Array Value) :
  Walks prog w A I [I,ax] [I] items.size (fun i v=>items[i]?=some v) (fun i h=>IsTupIter h I ax i∧IsTup h ax items) where
 sub:=fun b hb=>by simp at hb;simp[hb]
 frame:=fun i h h' st hk=>by
  obtain⟨⟨o,e1,e2⟩,⟨o',f1,f2⟩⟩:=st
  exact⟨⟨o,hk I (by simp) o e1,e2⟩,⟨o',hk ax (by simp) o' f1,f2⟩⟩
 item:=fun i s Q E hi st hQ=>by
  refine next_tuple_item st.1 st.2 (x:=items[i]) (by simp[hi]) fun h' hit' hs'=>?_
  exact hQ _ h' s.toks (by simp[hi]) ⟨hit',st.2.extBut hs'.extBut hne⟩ fun b o hb e=>hs'.extBut b o (fun h=>hb (by simp[h])) e
 done:=fun s Q E st hQ=>next_tuple_end hh st.1 st.2 (by simp) fun h' he'=>hQ h' s.toks fun b o hb e=>he' b o (fun h=>hb (by simp[h])) e
 self:=fun _ _ _ _ st hQ=>qi st.1 hQ
def d8:V->Bool
 |.bl b=>b
 |.int i=>i != 0
 |_=>false
def scS:V->Bool
 |.bl _=>true
 |.int _=>true
 |_=>false
theorem zE{prog:Program}{w:World}{A:Around}{E:Value->Shared->Prop}{s:Shared}{v:V}{u:Value}{Q:Bool->Shared->Prop}(h:scS v=true)(r:RelV v u)(q:Q (d8 v) s):wpAny (model prog w) A (truthy u) Q E s:=by
 cases v with
 |bl b=>cases r;exact wpAny_truthy_bool q
 |int i=>obtain⟨t,rfl⟩:=r;exact PyProof.Rows.truthy_int q
 |_=>cases h
theorem range_all{xs:List V}{tr:Nat->Bool}(h:∀(i:Nat) (x:V),xs[i]?=some x->tr i=d8 x):(List.range xs.length).all tr=xs.all d8:=by
 rw[Bool.eq_iff_iff,List.all_eq_true,List.all_eq_true]
 constructor
 ·intro q x hx
  obtain⟨i,hi,e⟩:=List.mem_iff_getElem.mp hx
  have:=q i (List.mem_range.mpr hi)
  rw[h i x (by rw[List.getElem?_eq_getElem hi,e])] at this
  exact this
 ·intro q i hi
  have hi':=List.mem_range.mp hi
  rw[h i xs[i] (List.getElem?_eq_getElem hi')]
  exact q _ (List.getElem_mem hi')
theorem range_any{xs:List V}{tr:Nat->Bool}(h:∀(i:Nat) (x:V),xs[i]?=some x->tr i=d8 x):(List.range xs.length).any tr=xs.any d8:=by
 rw[Bool.eq_iff_iff,List.any_eq_true,List.any_eq_true]
 constructor
 ·rintro⟨i,hi,e⟩
  have hi':=List.mem_range.mp hi
  rw[h i xs[i] (List.getElem?_eq_getElem hi')] at e
  exact⟨_,List.getElem_mem hi',e⟩
 ·rintro⟨x,hx,e⟩
  obtain⟨i,hi,ex⟩:=List.mem_iff_getElem.mp hx
  refine⟨i,List.mem_range.mpr hi,?_⟩
  rw[h i x (by rw[List.getElem?_eq_getElem hi,ex])]
  exact e
theorem Ci{prog:Program}{w:World}{A:Around}{xs:List V}{its:List Value}(rv:Vals xs its)(hs:∀x∈xs,scS x=true):TruthOf prog w A (fun i v=>its.toArray[i]?=some v) (fun i=>d8 (xs[i]?.getD .non)):=by
 intro i v s Q E hP hQ
 have e:its[i]?=some v:=by simpa using hP
 have hl:=rv.length
 have hi:i<xs.length:=by rw[hl];exact (List.getElem?_eq_some_iff.mp e).1
 obtain⟨u,e2,r⟩:=rv.get (List.getElem?_eq_getElem hi)
 rw[e] at e2
 cases e2
 refine zE (hs _ (List.getElem_mem hi)) r ?_
 have hQ':Q (d8 (xs[i]?.getD V.non)) s:=hQ
 rw[List.getElem?_eq_getElem hi] at hQ'
 exact hQ'
theorem zO(hh:X.A.handled=none):CallR X (.builtin "all") (fun vs H Q=>∃l xs,vs=[.ref l]∧H l=some (.lst xs)∧(∀x∈xs,scS x=true)∧Q (.bl (xs.all d8)) H):=by
 intro pins s σ H vs us Q I r h
 obtain⟨l,xs,rfl,hH,hs,q⟩:=h
 obtain⟨u,rfl,ru⟩:=vals1 r
 cases ru
 obtain⟨its,rv,p,hz⟩:=I.list (SqL.of (K:=X.K) hH)
 have hl:l<s.heap.objs.size:=by obtain⟨o,n,e,_⟩:=p;exact Heap.lt_size e
 refine call_all_walk (wpAny_pyIter_list p.isList ?_)
 refine⟨s.heap.objs.size,[s.heap.objs.size,l],[s.heap.objs.size],its.toArray.size,fun i v=>its.toArray[i]?=some v,fun i h=>h.IsListIter s.heap.objs.size l i∧h.IsList l its.toArray,fun i=>d8 (xs[i]?.getD .non),rfl,Walks.list (A:=X.A.in1) hh s.heap.objs.size l (Nat.ne_of_lt hl) its.toArray,⟨⟨_,Heap.get?_push_size _ rfl,rfl,rfl⟩,p.isList.at fun o e=>Heap.get?_push_of_some _ e⟩,Ci rv hs,fun h' tk hk=>?_⟩
 refine⟨.bl (xs.all d8),H,I.kept fun b o e=>hk b o (fun z=>?_) (Heap.get?_push_of_some _ e),?_,q⟩
 ·have:b=s.heap.objs.size:=by simpa using z
  exact absurd (Heap.lt_size e) (by rw[this];exact Nat.lt_irrefl _)
 ·rw[show its.toArray.size=xs.length by rw[List.size_toArray];exact rv.length.symm]
  show Value.bool _=Value.bool _
  rw[range_all fun i x e=>by rw[e];rfl]
theorem zP(hh:X.A.handled=none):CallR X (.builtin "any") (fun vs H Q=>∃l xs,vs=[.ref l]∧H l=some (.tup xs)∧(∀x∈xs,scS x=true)∧Q (.bl (xs.any d8)) H):=by
 intro pins s σ H vs us Q I r h
 obtain⟨l,xs,rfl,hH,hs,q⟩:=h
 obtain⟨u,rfl,ru⟩:=vals1 r
 cases ru
 obtain⟨its,rv,p,hz⟩:=I.tuple (SqT.of (K:=X.K) hH)
 have hl:l<s.heap.objs.size:=by obtain⟨o,e,_⟩:=p;exact Heap.lt_size e
 refine call_any_walk (iter_tuple p ?_)
 refine⟨s.heap.objs.size,[s.heap.objs.size,l],[s.heap.objs.size],its.toArray.size,fun i v=>its.toArray[i]?=some v,fun i h=>IsTupIter h s.heap.objs.size l i∧IsTup h l its.toArray,fun i=>d8 (xs[i]?.getD .non),rfl,zG (A:=X.A.in1) hh s.heap.objs.size l (Nat.ne_of_lt hl) its.toArray,⟨⟨_,Heap.get?_push_size _ rfl,rfl,rfl⟩,?_⟩,Ci rv hs,fun h' tk hk=>?_⟩
 ·obtain⟨o',f1,f2⟩:=p
  exact⟨o',Heap.get?_push_of_some _ f1,f2⟩
 refine⟨.bl (xs.any d8),H,I.kept fun b o e=>hk b o (fun z=>?_) (Heap.get?_push_of_some _ e),?_,q⟩
 ·have:b=s.heap.objs.size:=by simpa using z
  exact absurd (Heap.lt_size e) (by rw[this];exact Nat.lt_irrefl _)
 ·rw[show its.toArray.size=xs.length by rw[List.size_toArray];exact rv.length.symm]
  show Value.bool _=Value.bool _
  rw[range_any fun i x e=>by rw[e];rfl]
def Jv(tv:TE):TE:=fun σ H Q=>tv σ H fun x H1=>∃i:Int,x=.int i∧i.natAbs.log2<1920∧Q (.str (toString i)) H1
theorem Gn{e:Expr}{tv:TE}{pos:Pos}(he:PE X e tv):PE X (.FormattedValue e (-1) none pos) (Jv tv):=by
 intro pins s σ H Q I h
 refine FormattedValue_plain (thn (he pins s σ H _ I h) fun v s1 ⟨x,H1,I1,r1,q1⟩=>?_)
 obtain⟨i,rfl,hl,q⟩:=q1
 obtain⟨t,rfl⟩:=r1
 exact wpAny_formatField_int hl ⟨.str _,H1,I1.tok _,⟨_,rfl⟩,q⟩
def Hb(ta tb tc:TE):TE:=fun σ H Q=>ta σ H fun x H1=>∃a:Str,x=.str a∧a.length≤sizeLine∧tb σ H1 fun y H2=>∃b:Str,y=.str b∧a.length+b.length≤sizeLine∧tc σ H2 fun z H3=>∃c:Str,z=.str c∧a.length+b.length+c.length≤sizeLine∧Q (.str (Str.empty++a++b++c)) H3
theorem Az{a b c:Expr}{ta tb tc:TE}{pos:Pos}(ha:PE X a ta)(hb:PE X b tb)(hc:PE X c tc):PE X (.JoinedStr [a,b,c] pos) (Hb ta tb tc):=by
 intro pins s σ H Q I h
 have el:∀y:Str,(Str.empty++y).length=y.length:=fun y=>by rw[strLen_append];show 0+y.length=y.length;omega
 refine JoinedStr_many (joinParts_cons (thn (ha pins s σ H _ I h) fun v s1 ⟨x,H1,I1,r1,q1⟩=>?_))
 obtain⟨sa,rfl,la,q1⟩:=q1
 obtain⟨t,rfl⟩:=r1
 refine⟨by rw[el];exact la,joinParts_cons (thn (hb pins s1 σ H1 _ I1 q1) fun v s2 ⟨y,H2,I2,r2,q2⟩=>?_)⟩
 obtain⟨sb,rfl,lb,q2⟩:=q2
 obtain⟨t2,rfl⟩:=r2
 refine⟨by rw[strLen_append,el];exact lb,joinParts_cons (thn (hc pins s2 σ H2 _ I2 q2) fun v s3 ⟨z,H3,I3,r3,q3⟩=>?_)⟩
 obtain⟨sc,rfl,lc,q3⟩:=q3
 obtain⟨t3,rfl⟩:=r3
 have l3:(Str.empty++sa++sb++sc).length≤sizeLine:=by rw[strLen_append,strLen_append,el];exact lc
 exact⟨l3,joinParts_nil ⟨.str _,H3,I3.tok _,⟨_,rfl⟩,q3⟩ l3⟩
theorem qz:∀ {bs:List Bool}{its:List Value},Vals (bs.map V.bl) its->its=bs.map Value.bool
 |[],_,r=>by rw[List.map_nil] at r;cases r;rfl
 |b::bs,_,r=>by
   rw[List.map_cons] at r
   cases r with
   |cons r1 r2=>cases r1;rw[qz r2];rfl
def eqB(b:Bool):Value->Bool
 |.bool c=>c==b
 |_=>false
theorem qN(b:Bool):∀bs:List Bool,(bs.map Value.bool).countP (eqB b)=bs.countP (·== b)
 |[]=>rfl
 |c::bs=>by rw[List.map_cons,List.countP_cons,List.countP_cons,qN b bs];rfl
theorem Ao:MtM X "list.count" (fun x vs H Q=>∃(l:Addr) (bs:List Bool) (b:Bool),x=.ref l∧vs=[.bl b]∧H l=some (.lst (bs.map V.bl))∧Q (.int (bs.countP (·== b):Nat)) H):=by
 intro pins s σ H x vs v us Q I rx rv h
 obtain⟨l,bs,b,rfl,rfl,hH,q⟩:=h
 cases rx
 obtain⟨u,rfl,ru⟩:=rv.one
 cases ru
 obtain⟨z,its,n,r,hl,e⟩:=I.lstM hH
 have ei:=qz r
 subst ei
 refine call_meets F.slot_list_count ⟨_,e,rfl⟩ F.entry_list_count (F.args_list_count_2 _ _) (PySem.SeqAt.list_countAt l (bs.map Value.bool).toArray n none #[] (.bool b) (eqB b)) ⟨e,fun y hy=>?_,?_⟩
 ·have hy':y∈bs.map Value.bool:=by simpa using hy
  obtain⟨c,_,rfl⟩:=List.mem_map.mp hy'
  exact PySem.SeqAt.EqAt.bool_bool c b
 ·refine⟨.int _,H,I.tok _,⟨s.toks,?_⟩,q⟩
  show Value.int (((bs.map Value.bool).toArray.toList.countP (eqB b):Nat):Int) _=_
  rw[show (bs.map Value.bool).toArray.toList=bs.map Value.bool from rfl,qN]
theorem Aq:MtM X "list.index" (fun x vs H Q=>∃(l:Addr) (bs:List Bool) (b:Bool) (j:Nat),x=.ref l∧vs=[.bl b]∧H l=some (.lst (bs.map V.bl))∧bs[j]?=some b∧(∀m c,m<j->bs[m]?=some c->(c==b)=false)∧j<1000∧Q (.int (j:Nat)) H):=by
 intro pins s σ H x vs v us Q I rx rv h
 obtain⟨l,bs,b,j,rfl,rfl,hH,hj,hno,h1,q⟩:=h
 cases rx
 obtain⟨u,rfl,ru⟩:=rv.one
 cases ru
 obtain⟨z,its,n,r,hl,e⟩:=I.lstM hH
 have ei:=qz r
 subst ei
 obtain⟨lt,ej⟩:=List.getElem?_eq_some_iff.mp hj
 have lt':j<(bs.map Value.bool).toArray.size:=by simpa using lt
 refine call_meets F.slot_list_index ⟨_,e,rfl⟩ F.entry_list_index (F.args_list_index_2 _ _) (PySem.SeqAt.list_indexAt l (bs.map Value.bool).toArray n none #[] (.bool b) (eqB b) j lt' (by omega) ?_ ?_) ⟨e,fun y hy=>?_,?_⟩
 ·simp[eqB,ej]
 ·intro m hm lm
  have hm':m<bs.length:=by simpa using hm
  have:=hno m bs[m] lm (List.getElem?_eq_getElem hm')
  simpa[eqB] using this
 ·have hy':y∈bs.map Value.bool:=by simpa using hy
  obtain⟨c,_,rfl⟩:=List.mem_map.mp hy'
  exact PySem.SeqAt.EqAt.bool_bool c b
 ·exact⟨.int _,H,I.tok _,⟨_,rfl⟩,q⟩
theorem nH:fillsNumberSlot (.type "tuple") "mul"=pure false:=
 PySem.fillsNumberSlot_seq (id := "tuple.__mul__") (r:=some (.builtin "tuple.__rmul__")) F.slot_tuple_mul.lookup (by decide +kernel) F.slot_tuple_rmul.lookup (by decide +kernel)
theorem uo:seqRepeat? (.type "tuple")=pure (some (.builtin "tuple.__mul__")):=by
 unfold seqRepeat?
 rw[PySem.seqSlot_of (T := "tuple") (name := "__mul__") (id := "tuple.__mul__") F.slot_tuple_mul.lookup (by decide +kernel),PySem.seqSlot_of (T := "tuple") (name := "__rmul__") (id := "tuple.__rmul__") F.slot_tuple_rmul.lookup (by decide +kernel)]
 rfl
theorem wN(a:Int)(t:Tok)(l:Addr)(items:Array Value)(n:Nat)(dd:Option Addr)(sl:Array (Option Value)) :
  Meets (Builtin.«int.__rmul__» ⟨[.int a t,.ref l],[]⟩) (fun _ R s=>s.heap.get? l=some { cls:=.type "tuple",dict:=dd,data:=.seq items n,slots:=sl }∧R (.ok (.ret Value.notImplemented)) s):=
 .of_wp fun prog w A R s h=>by obtain⟨hp,g,d,tk,os⟩:=s;obtain⟨hl,h⟩:=h;wp_walk;exact⟨_,rfl,h⟩
open PySem.AutoSeq1 (wpAny_loadPart') in
theorem Hv(l:Addr)(items:Array Value)(n:Nat)(dd:Option Addr)(sl:Array (Option Value))(t:Tok) :
  Meets (Builtin.«tuple.__mul__» ⟨[.ref l,.int 1 t],[]⟩) (fun _ R s=>s.heap.get? l=some { cls:=.type "tuple",dict:=dd,data:=.seq items n,slots:=sl }∧R (.ok (.ret (.ref l))) s):=
 .of_wp fun prog w A R s h=>by
  obtain⟨hp,g,d,tk,os⟩:=s;obtain⟨hl,h⟩:=h
  have f1:=AutoSeq1.idx_int
  have f2:=AutoSeq1.sub_tuple_tuple
  unfold Builtin.«tuple.__mul__»
  wp_walk using wpAny_loadPart' hl
  exact⟨_,rfl,h⟩
open PySem.AutoSeq1 (wpAny_loadPart') in
theorem Hw (l:Addr) (items:Array Value) (n:Nat) (dd:Option Addr) (sl:Array (Option Value)) (k:Int) (t:Tok) (h0:¬(decide (k < -2 ^ 63) || decide (k ≥ 2 ^ 63))=true) (h1:¬(items.isEmpty || k == 1)=true) (h2:¬(decide (k≤0) || items.isEmpty)=true)
  (h3:¬((items.size:Int)*k > (2^63-1) / 8)) (h4:¬Builtin.Tuple.tupleTooMany ((items.size:Int)*k)=true) (h5:sizeOk (.seq (List.foldl (fun x1 x2=>x1++x2) #[] (List.replicate k.toNat items)))) :
  Meets (Builtin.«tuple.__mul__» ⟨[.ref l,.int k t],[]⟩) (fun _ R s=>s.heap.get? l=some { cls:=.type "tuple",dict:=dd,data:=.seq items n,slots:=sl } ∧
   R (.ok (.ret (.ref s.heap.objs.size))) { s with heap:=s.heap.push { cls:=.type "tuple",data:=.seq (List.foldl (fun x1 x2=>x1++x2) #[] (List.replicate k.toNat items)) } }):=
 .of_wp fun prog w A R s h=>by
  obtain⟨hp,g,d,tk,os⟩:=s;obtain⟨hl,h⟩:=h
  have f1:=AutoSeq1.idx_int
  have f2:=AutoSeq1.sub_tuple_tuple
  unfold Builtin.«tuple.__mul__»
  wp_walk using wpAny_loadPart' hl
  rw[if_neg h0]
  wp_walk using wpAny_loadPart' hl
  rw[if_neg h3]
  wp_walk using wpAny_loadPart' hl
  rw[if_neg (show ¬ _ > sizeLine from Nat.not_lt.mpr h5)]
  wp_walk using wpAny_loadPart' hl
  all_goals first | exact⟨_,rfl,h⟩ | assumption
def HJ:R2:=fun x y H Q=>∃(l:Addr) (c:V) (k:Int),x=.ref l∧y=.int k∧H l=some (.tup [c])∧1≤k∧k≤1000∧∀p H',Same H H'->H' p=some (.tup (List.replicate k.toNat c))->Q (.ref p) H'
theorem Dn:OpR X (binaryOp .Mult) HJ:=by
 intro pins s σ H x y v u Q I rx ry h
 obtain⟨l,c,k,rfl,rfl,hH,h1,h2,q⟩:=h
 cases rx
 obtain⟨t,rfl⟩:=ry
 obtain⟨its,r,⟨⟨cls,dd,data,sl⟩,e,hc,n,hd⟩,hz⟩:=I.tuple (SqT.of (K:=X.K) hH)
 simp only at hc hd
 subst hc hd
 obtain⟨u,rfl,ru⟩:=vals1 r
 have ty:s.TypeIs (.ref l) "tuple":=⟨_,e,rfl⟩
 refine wpAny_binaryOp_repeat_ref (T := "tuple") (U := "int") (by decide) ty (fun s'=>typeIs_int s' k t) nH F.fills_int_mul F.slot_int_rmul uo F.slot_int_index.lookup
  (call_meets F.slot_int_rmul (typeIs_int s k t) F.entry_int_rmul (F.args_int_rmul_2 _ _) (wN k t l _ n dd sl) ⟨e,rfl,ty,?_⟩)
 by_cases hk:k=1
 ·subst hk
  refine call_meets F.slot_tuple_mul ty F.entry_tuple_mul (F.args_tuple_mul_2 _ _) (Hv l _ n dd sl t) ⟨e,?_⟩
  exact⟨.ref l,H,I,rfl,q l H (Same.refl _) hH⟩
 ·have fl:List.foldl (fun x1 x2=>x1++x2) #[] (List.replicate k.toNat #[u])=(List.replicate k.toNat u).toArray:=by
   have:=foldl_rep [u] k.toNat []
   rw[List.nil_append] at this
   rw[this]
   have e2:∀m:Nat,(List.replicate m [u]).flatten=List.replicate m u:=fun m=>by
    induction m with
    |zero=>rfl
    |succ m ih=>rw[List.replicate_succ,List.flatten_cons,ih,List.replicate_succ];rfl
   rw[e2]
  refine call_meets F.slot_tuple_mul ty F.entry_tuple_mul (F.args_tuple_mul_2 _ _) (Hw l #[u] n dd sl k t ?_ ?_ ?_ ?_ ?_ ?_) ⟨e,?_⟩
  ·simp;omega
  ·simp[hk]
  ·simp;omega
  ·show ¬ (((1:Nat):Int)*k > (2^63-1) / 8);omega
  ·unfold Builtin.Tuple.tupleTooMany;rw[sizeLine_eq];show ¬ decide (((1:Nat):Int)*k > _)=true;simp;omega
  ·show (List.foldl (fun x1 x2=>x1++x2) #[] (List.replicate k.toNat #[u])).size≤sizeLine
   rw[fl,List.size_toArray,List.length_replicate,sizeLine_eq];omega
  rw[fl]
  have rr:∀m:Nat,Vals (List.replicate m c) (List.replicate m u):=fun m=>by
   induction m with
   |zero=>exact .nil
   |succ m ih=>rw[List.replicate_succ,List.replicate_succ];exact .cons ru ih
  refine⟨.ref s.heap.objs.size,_,I.laid (t':=s.toks) (o:=.tup (List.replicate k.toNat c)) (fun b ob q=>Heap.get?_push_of_some _ q) (Nat.le_refl _) ?_,rfl,q _ _ (same_new (I.hok.fresh (Nat.le_refl _)) _) upd_same⟩
  exact⟨by rw[List.length_replicate,sizeLine_eq];omega,_,rr _,IsTup.new _ _⟩
theorem Hz{x:Str}{i:Int}{t:Tok}{pos:Pos}(h:X.mg x=some (.int i t))(hg:Gl X x:=by rfl)(hd:(x==("__debug__":Str))=false:=by decide):PE X (.Name x pos) (tC (.int i)):=pe_glob hg h ⟨t,rfl⟩ hd
end
structure MethAt(K:PySem.W.Frag)(C:Addr)(x qual:Str)(st:Stmt):Prop where
 ex:∃f fd,Fun K x qual st f fd∧PySem.W.findIn K (.ref C) x=some (some (.ref f))∧PySem.W.isFn K (.ref f)=true
structure MethC(P:Program)(w:World)(K:PySem.W.Frag)(mg:Str->Option Value)(base:Heap)(k:Nat)(C:Addr)(x:Str)(ps:List Str)(sp:Sp):Prop where
 ex:∃f fd,FnOk P w K mg base (bw P w) k f fd ps sp∧Binds K fd ps []∧PySem.W.keepIn K (.ref f)=true∧PySem.W.findIn K (.ref C) x=some (some (.ref f))∧PySem.W.isFn K (.ref f)=true
theorem yK{K:PySem.W.Frag}{C:Addr}{x qual:Str}{st:Stmt}{f:Addr}{oc:Value}{od an:Option Addr}{osl:Array (Option Value)}{kV doc pm cdv ct:Value}
  (a:PySem.W.findIn K (.ref C) x=some (some (.ref f))) (n:PySem.W.isFn K (.ref f)=true) (l:K.lookup f=some ⟨oc,od,.func (PySem.W.fnOf x qual (defArgs st) (defBody st) (defScope st) .none kV doc pm an cdv ct),osl⟩) (c:PySem.W.codeIn K cdv qual=true) (k:PySem.W.keepIn K (.ref f)=true):MethAt K C x qual st:=
 ⟨f,_,fun_mk l c k,a,n⟩
section
variable{P:Program}{w:World}{K:PySem.W.Frag}{mg:Str->Option Value}{base:Heap}{k:Nat}{C:Addr}{x qual:Str}{N ps:List Str}{sp:Sp}{st:Stmt}
theorem Jb {f:Addr}{fd:FuncData} (F:Fun K x qual st f fd) (S:FnScope N ps (defScope st)) (len:∀ vs H Q E,sp vs H Q E->vs.length=ps.length)
  (hbody:∀(cdv:Value) (A:Around) (outer:List Env) (s:Shared) (H:Hp) (vs:List V) (Q:VK) (E:XK),Room k (A.deeper (envOfC qual (defScope st) s.heap.objs.size f cdv))->sp vs H Q E->
    ∃t,PSs (aH P w K mg base N qual (defScope st) f cdv A outer s H E) (defBody st) t∧t { nx:=fun _ H'=>Q .non H',rt:=Q } (start N vs) H):FnOk P w K mg base (bw P w) (k+1) f fd ps sp:=by
 obtain⟨oc,od,kV,doc,pm,an,cdv,ct,osl,rfl,l,c⟩:=F.ex
 exact fn_of l c S len (hbody cdv)
end
section
variable{X:Cx}{j k:Nat}{C:Addr}{ps:List Str}{sp:Sp}{x:Str}{p pos:Pos}{e:Expr}{es:List Expr}{t:TA}{E:XK}
theorem Ba(D:MethC X.prog X.w X.K X.mg X.base j C "__init__" ps sp)(mk:PySem.W.makesIn X.K C=true)(kc:PySem.W.keepIn X.K (.ref C)=true)(hm:X.mg x=some (.ref C))(hr:Room k X.A)(hx:Passes (bw X.prog X.w) X E)(ha:QA X (e::es) t)(hjk:j+1≤k:=by decide)(hg:Gl X x:=by rfl)(hdb:(x==("__debug__":Str))=false:=by decide)
  (he:notStar e=true:=by rfl) (hpl:(backTo pos (starEach es X.env)).any (·.1)=false:=by rfl) :
  PE X (.Call (.Name x p) (e::es) [] pos) (tMake C sp [] E t):=by
 obtain⟨f,fd,F,b,kp,a,n⟩:=D.ex
 exact pe_make ⟨mk,a,n,kc⟩ F (hr.mono hjk) hg hm b .nil hx ha.h hdb (aX he) hpl
end
open PySem PySem.Spec PyProof.Rows
section
variable{X:Cx}{CX:CXT}{k:Nat}{f C:Addr}{fd:FuncData}{ps:List Str}{sp:Sp}{E:XK}
theorem Dz {pins:List (Addr×Obj)}{σ:St}{H:Hp}{s:Shared}{Q:VK}{us:List Value}{vs:List V} (F:FnOk X.prog X.w X.K X.mg X.base CX k f fd ps sp) (hr:Room k X.A.in1) (hb:Binds X.K fd ps []) (hx:Passes CX X E)
  (I:Inv X pins σ H s) (r:Vals vs us) (h:sp vs H Q E):wpAny (model X.prog X.w) X.A.in1 (call (.ref f) us) (EP X pins σ Q) X.xe s:=by
 have hl:(us++[]).length=ps.length:=by rw[List.append_nil,←r.length];exact F.len _ _ _ _ h
 have hl':us.length=ps.length:=by rw[List.append_nil] at hl;exact hl
 have bb:=hb s us I.kIn hl
 rw[List.append_nil] at bb
 refine wpAny_call (codeAny_mono (F.run X.A.in1 X.stack s H ⟨us,[]⟩ us vs Q E hr ⟨(show X.A.in1.frames=some X.stack from I.ok.frames),I.ok.mod,I.bs,Nat.le_trans I.ok.bsz I.sz,I.stack,I.stkFree,I.hok,I.bare⟩ bb r h) fun r s' hq=>?_)
 cases r with
 |error e=>exact hx pins σ H s e s' I hq
 |ok fl=>
   cases fl with
   |ret u=>exact I.after hq
   |next=>exact False.elim hq
   |brk=>exact False.elim hq
   |cont=>exact False.elim hq
theorem xN{j:Nat}(D:MethC X.prog X.w X.K X.mg X.base j C "__len__" ps sp)(hr:Room (j+1) X.A)(hx:Passes (bw X.prog X.w) X E) :
  CallR X (.builtin "len") (fun vs H Q=>∃x dx fs,vs=[.ref x]∧H x=some (.ins C dx fs)∧sp [.ref x] H (fun v H2=>∃n:Int,v=.int n∧(0≤n∧n<2^63)∧Q (.int n) H2) E):=by
 intro pins s σ H vs us Q I r h
 obtain⟨x,dx,fs,rfl,hx',q⟩:=h
 obtain⟨f,fd,F,b,kp,a,n⟩:=D.ex
 obtain⟨u,rfl,ru⟩:=vals1 r
 cases ru
 obtain⟨mA,O,_⟩:=ins_get I.hok hx'
 obtain⟨od,IA,_⟩:=O.look
 refine Calls.call_function_entry PySem.kind_len PySem.plain_len PySem.entry_len (PySem.args_len1 _) ?_
 unfold Builtin.«len»
 refine wpAny_bind (m:=oneArg "len" _) (wpAny_pure ?_)
 refine wpAny_bind (m:=callSpecial? (.ref x) (Str.ofString "__len__")) (PySem.W.special_fn I.kIn IA a (beq_iff_eq.mp n) (wpAny_mono (Dz (vs:=[.ref x]) F hr.in1 b hx I (.cons rfl .nil) q) (fun w' s' hw=>?_) fun _ _ y=>y))
 obtain⟨v,H2,I2,rv,m,rfl,⟨h0,h1⟩,qq⟩:=hw
 obtain⟨t,rfl⟩:=rv
 refine wpAny_bind (wpAny_holding (wpAny_pure ?_))
 refine wpAny_bind (wpAny_letGo ?_)
 show wpAny _ _ (if m<0 then _ else _) _ _ _
 rw[if_neg (by omega)]
 show wpAny _ _ (if m ≥ 2^63 then _ else _) _ _ _
 rw[if_neg (by omega)]
 exact wpAny_bind (wpAny_mkInt (wpAny_pure ⟨_,rfl,.int m,H2,I2.tok _,⟨_,rfl⟩,qq⟩))
end
theorem bA:∀ (names:List (Str×NameKind)) (n:Nat) (acc:List (Str×Addr)),cellsFrom n names acc=cellsFrom n names []++acc
 |[],_,_=>rfl
 |(name,kind)::r,n,acc=>by
   unfold cellsFrom
   split
   ·rw[bA r (n+1) ((name,n)::acc),bA r (n+1) [(name,n)],List.append_assoc];rfl
   ·exact bA r n acc
theorem lw{M:Model}{A:Around}{E:Value->Shared->Prop}{s:Shared}{scope:Scope}{globals:Addr}{cl:List (Str×Addr)}{qual:Str}{env:Env}{Q:Env->Shared->Prop}
  (hQ:Q (newEnv scope s.heap.objs.size globals (cellsFrom (s.heap.objs.size+1) scope.names cl) qual none .none (some env) builtinsNs) { s with heap:=pushCells (s.heap.push { cls:=.type "dict",data:=.dict #[] }) scope.names }) :
  wpAny M A (newFunctionEnv scope globals cl [] qual none .none (some env)) Q E s:=by
 simp only[newFunctionEnv,Option.isSome_some,if_true]
 refine wpAny_bind (wpAny_alloc ?_)
 refine wpAny_bind (wpAny_layCells _ (fun name kind cells=>by cases hkc:kind==NameKind.cell<;>simp[hkc]) _ _ _ _ ?_)
 rw[show ({ s with heap:=s.heap.push { cls:=.type "dict",data:=.dict #[] } }:Shared).heap.objs.size=s.heap.objs.size+1 from Heap.size_push ..]
 refine wpAny_bind ?_
 rw[List.forIn_nil]
 exact wpAny_pure (wpAny_pure hQ)
abbrev Cx.aP(X:Cx)(pins:List (Addr×Obj))(scope:Scope)(cs:List (Str×Addr))(Nc:List Str)(fp:List Addr)(C:Addr)(s₂:Shared)(H₂:Hp):Cx where
 prog:=X.prog
 w:=X.w
 K:=X.K
 mg:=X.mg
 base:=X.base
 A:=X.A
 N:=Nc
 s₀:=s₂
 H₀:=H₂
 env:=compEnvC scope cs C X.env
 outer:=X.stack
 stack:=X.stack
 ex:=fp
 fn:=fun y=>scope.names.lookup y==some .cell
 calm:=X.calm
 pn:=X.pn++pins
 xe:=fun _ _=>False
structure CompG(X:Cx)(scope:Scope)(cl:List (Str×Addr))(own:List Str)(js:List Nat)(fr:List Str):Prop where
 kind:scope.kind=.function
 names:∀y∈scope.names,y.2=.local->scope.names.lookup y.1=some .local
 clos:closureFor scope X.env=pure cl
 sub:∀y c,cl.lookup y=some c->X.env.cells.lookup y=some c
 has:∀(m:Nat) y,((relabel scope X.env).names.lookup y=some .cell∨(relabel scope X.env).names.lookup y=some .free)->∃c,(cellsFrom m scope.names cl).lookup y=some c
 nd:(own++fr).Nodup
 len:js.length=fr.length
 newc:∀(m:Nat) y c,(cellsFrom m scope.names []).lookup y=some c->scope.names.lookup y=some .cell
 oldc:∀y c,cl.lookup y=some c->scope.names.lookup y≠some .cell
 fre:∀(k j:Nat) (y:Str),js[k]?=some j->fr[k]?=some y->X.N[j]?=some y∧(X.env.scope.names.lookup y=some .cell∨X.env.scope.names.lookup y=some .free)∧((relabel scope X.env).names.lookup y=some .cell∨(relabel scope X.env).names.lookup y=some .free)∧∃c,cl.lookup y=some c
theorem jy {α:Type}{y:Str}{c:α}:∀ {l m:List (Str×α)},(l++m).lookup y=some c->l.lookup y=some c∨(l.lookup y=none∧m.lookup y=some c)
 |[],_,h=>.inr ⟨rfl,h⟩
 |(k,v)::r,m,h=>by
   rw[List.cons_append,List.lookup_cons] at h
   rw[List.lookup_cons]
   split at h
   ·exact .inl h
   ·exact jy h
theorem iu {α:Type}{y:Str}:∀ {l m:List (Str×α)},l.lookup y=none->(l++m).lookup y=m.lookup y
 |[],_,_=>rfl
 |(k,v)::r,m,h=>by
   rw[List.lookup_cons] at h
   rw[List.cons_append,List.lookup_cons]
   split at h
   ·cases h
   ·exact iu h
section
variable{X:Cx}{pins:List (Addr×Obj)}{σ:St}{H:Hp}{s:Shared}{scope:Scope}{cl:List (Str×Addr)}{own:List Str}{js:List Nat}{fr:List Str}{fp:List Addr}{C m:Addr}
theorem zW {hh:Heap} (T:CompG X scope cl own js fr) (I:Inv X pins σ H s) (f:∀ b∈fp,FpOk X pins H b) (hlt:∀ b∈fp,b<s.heap.objs.size) (hC:s.heap.objs.size≤C) (hm:m=hh.objs.size) (hms:s.heap.objs.size≤m) :
  (X.aP pins scope (cellsFrom m scope.names cl) (own++fr) fp C s H).Ok:=by
 have ok:CellsOk (pushCells hh scope.names) m (cellsFrom m scope.names []):=by
  have:=cellsFrom_ok scope.names hh m [] ⟨fun _ _ hm=>(nomatch hm),List.Pairwise.nil⟩ (by rw[hm];exact Nat.le_refl _)
  rw[←hm] at this;exact this
 have hold:∀y c,cl.lookup y=some c->c<s.heap.objs.size:=fun y c e=>by
  obtain⟨v,q⟩:=I.cell y c (T.sub _ _ e)
  exact q.lt
 have spl:∀y c,(cellsFrom m scope.names cl).lookup y=some c->(m≤c∧(cellsFrom m scope.names []).lookup y=some c)∨(cl.lookup y=some c∧c<s.heap.objs.size):=fun y c e=>by
  rw[bA] at e
  rcases jy e with z | ⟨_,z⟩
  ·exact .inl ⟨(ok.empty _ _ (PySem.mem_of_lookup z)).2,z⟩
  ·exact .inr ⟨z,hold _ _ z⟩
 refine⟨I.ok.mod,T.kind,I.ok.glob,I.ok.blt,hC,fun y z c h1 h2=>?_,fun y h=>T.has m y h,fun y c h1 h2=>?_,I.ok.hd,I.ok.frames,.inl rfl,fun b hb=>⟨Nat.ne_of_lt (Nat.lt_of_lt_of_le (hlt b hb) hC),fun y c h=>?_⟩,fun b o e=>I.bs b o e,Nat.le_trans I.ok.bsz I.sz,fun b o e hb=>?_,fun b hb hm'=>?_,I.stack,I.stkFree⟩
 ·rcases spl _ _ h1 with ⟨a1,a2⟩ | ⟨a1,a2⟩
  ·rcases spl _ _ h2 with ⟨b1,b2⟩ | ⟨b1,b2⟩
   ·exact name_of_addr ok.apart (PySem.mem_of_lookup a2) (PySem.mem_of_lookup b2)
   ·exact absurd (Nat.lt_of_lt_of_le b2 hms) (Nat.not_lt.mpr a1)
  ·rcases spl _ _ h2 with ⟨b1,b2⟩ | ⟨b1,b2⟩
   ·exact absurd (Nat.lt_of_lt_of_le a2 hms) (Nat.not_lt.mpr b1)
   ·exact I.ok.inj y z c (T.sub _ _ a1) (T.sub _ _ b1)
 ·rcases spl _ _ h2 with ⟨a1,a2⟩ | ⟨a1,a2⟩
  ·exact Nat.le_trans hms a1
  ·exact absurd (by simpa using h1) (T.oldc _ _ a1)
 ·rcases spl _ _ h with ⟨a1,a2⟩ | ⟨a1,a2⟩
  ·exact fun z=>absurd (Nat.lt_of_lt_of_le (hlt b hb) hms) (Nat.not_lt.mpr (z ▸ a1))
  ·exact (f b hb).2.2.2.2.1 y c (T.sub _ _ a1)
 ·rcases (f b hb).2.2.2.1 with z | z
  ·exact I.ok.noex b o e z
  ·exact absurd (Nat.lt_of_lt_of_le (Heap.lt_size e) I.ok.bsz) (Nat.not_lt.mpr z)
 ·rcases List.mem_cons.mp (I.stkSub b hm') with z | z
  ·exact (f b hb).2.1 z
  ·exact (f b hb).2.2.1 z
theorem kj {hh h':Heap}{t':Nat}{acc:Addr}{mm:Str->Option Value} (T:CompG X scope cl own js fr) (I:Inv X pins σ H s) (f:∀ b∈fp,FpOk X pins H b) (hlt:∀ b∈fp,b<s.heap.objs.size)
  (k:∀b o,s.heap.get? b=some o->h'.get? b=some o) (ha:s.heap.objs.size≤acc) (hC:s.heap.objs.size≤C) (hne:C≠acc) (hm:m=hh.objs.size) (hms:s.heap.objs.size≤m) (hCm:C<m) (ham:acc<m) (hh':h'=pushCells hh scope.names)
  (new:∃n,h'.get? acc=some { cls:=.type "list",data:=.seq #[] n }) (ns:h'.Ns C mm) :
  Inv (X.aP pins scope (cellsFrom m scope.names cl) (own++fr) fp C s H) [] (List.replicate own.length none++pick js σ) (upd H acc (.lst [])) { s with heap:=h',toks:=t' }:=by
 have ok:CellsOk (pushCells hh scope.names) m (cellsFrom m scope.names []):=by
  have:=cellsFrom_ok scope.names hh m [] ⟨fun _ _ hm=>(nomatch hm),List.Pairwise.nil⟩ (by rw[hm];exact Nat.le_refl _)
  rw[←hm] at this;exact this
 have hold:∀y c,cl.lookup y=some c->c<s.heap.objs.size:=fun y c e=>by
  obtain⟨v,q⟩:=I.cell y c (T.sub _ _ e)
  exact q.lt
 have spl:∀y c,(cellsFrom m scope.names cl).lookup y=some c->(m≤c∧h'.IsCell c none)∨(cl.lookup y=some c∧c<s.heap.objs.size):=fun y c e=>by
  rw[bA] at e
  rcases jy e with z | ⟨_,z⟩
  ·have:=ok.empty _ _ (PySem.mem_of_lookup z)
   exact .inl ⟨this.2,by rw[hh'];exact this.1⟩
  ·exact .inr ⟨z,hold _ _ z⟩
 have hn:H acc=none:=I.hok.fresh ha
 have fC:H C=none:=I.hok.fresh hC
 have ob:ObjOk X.prog X.w (upd H acc (.lst [])) h' acc (.lst []):=by
  obtain⟨n,e⟩:=new
  exact⟨Nat.zero_le _,[],n,.nil,e⟩
 refine⟨zW T I f hlt hC hm hms,rfl,I.bare,Un.laid k ha hn,⟨mm,ns,fun i y v h1 h2 h3=>?_⟩,fun y c e=>?_,by show upd H acc _ C=none;rw[upd_ne hne];exact fC,fun y c e=>?_,fun p hp=>?_,I.hok.laid k ha ob,?_⟩
 ·have h1:(own++fr)[i]?=some y:=h1
  by_cases hi:i<own.length
  ·rw[List.getElem?_append_left (by rw[List.length_replicate];exact hi),List.getElem?_replicate] at h2
   split at h2<;>cases h2
  ·rw [List.getElem?_append_right (by omega)] at h1
   rw[List.getElem?_append_right (by rw[List.length_replicate];omega),List.length_replicate] at h2
   unfold pick at h2
   rw[List.getElem?_map] at h2
   cases hj:js[i-own.length]? with
   |none=>rw[hj] at h2;cases h2
   | some j=>
     rw[hj] at h2
     have h2s:(σ[j]?).getD none=some v:=Option.some.inj h2
     have h2'':σ[j]?=some (some v):=by
      cases z:σ[j]? with
      |none=>rw[z] at h2s;cases h2s
      |some w=>rw[z] at h2s;exact congrArg some h2s
     obtain⟨g1,g2,g3,c,gc⟩:=T.fre _ j y hj h1
     obtain⟨mX,_,hl⟩:=I.loc
     have vis:Vis X.env.scope y:=g2.elim (fun z=>.inr (.inl z)) fun z=>.inr (.inr z)
     obtain⟨u,r,q⟩:=hl j y v g1 h2'' vis
     refine⟨u,r,.inr ⟨g3,c,?_,?_⟩⟩
     ·show (cellsFrom m scope.names cl).lookup y=some c
      rw[bA]
      cases z:(cellsFrom m scope.names []).lookup y with
      |none=>rw[iu z];exact gc
      |some c'=>exact absurd (T.newc m y c' z) (T.oldc y c gc)
     ·have hc':=T.sub _ _ gc
      rcases q with ⟨q,_⟩ | ⟨_,c2,e2,z⟩
      ·have q:X.env.scope.names.lookup y=some .local:=q
       rcases g2 with g2 | g2<;>(rw[g2] at q;cases q)
      ·rw[hc'] at e2;cases e2
       exact z.keeps k
 ·rcases spl y c e with ⟨_,z⟩ | ⟨z,_⟩
  ·exact⟨_,z⟩
  ·obtain⟨v,q⟩:=I.cell y c (T.sub _ _ z)
   exact⟨v,q.keeps k⟩
 ·rcases spl y c e with ⟨z,_⟩ | ⟨z,lt⟩
  ·show upd H acc _ c=none
   rw[upd_ne (fun (q:c=acc)=>absurd ham (Nat.not_lt.mpr (q ▸ z)))]
   exact I.hok.fresh (Nat.le_trans hms z)
  ·show upd H acc _ c=none
   rw[upd_ne (fun (q:c=acc)=>absurd lt (Nat.not_lt.mpr (q ▸ ha)))]
   exact I.freeC y c (T.sub _ _ z)
 ·have hp':p∈X.pn++pins:=by simpa using hp
  obtain⟨e,n,ne,nf,d⟩:=I.pin p hp'
  refine⟨k _ _ e,?_,Nat.ne_of_lt (Nat.lt_of_lt_of_le (Heap.lt_size e) hC),fun hm=>?_,d⟩
  ·show upd H acc _ p.1=none
   rw[upd_ne (fun z=>absurd (Heap.lt_size e) (by rw[z];exact Nat.not_lt.mpr ha))]
   exact n
  ·rcases List.mem_cons.mp (I.stkSub _ hm) with z | z
   ·exact ne z
   ·exact nf z
 ·show (List.replicate own.length none++pick js σ).length=(own++fr).length
  unfold pick
  rw[List.length_append,List.length_replicate,List.length_map,List.length_append,T.len]
end
section
variable{prog:Program}{w:World}{A:Around}{R:Result->Shared->Prop}{s:Shared}
def mJ(ifs:List Expr)(env:Env):Sem Bool:=forIn ifs true fun c r=>if r=true then do let ok ←isTrue c env (eval c env);pure (ForInStep.yield ok) else pure (ForInStep.yield r)
def turnOf (g:Comprehension) (bodyK:Sem Fin->Sem Fin) (c:Code) (it:Value) (env:Env):Sem Fin:=do
 standAt g.iter.pos
 match ←pyNext it with
 |none=>pure (.done .next)
 |some v=>
   letOwnedTupleGo g.target it v
   assign g.target env v
   let ok ←mJ g.ifs env
   if ok then bodyK (again c) else again c
def jm(elt:Expr)(acc:Value)(env:Env)(k:Sem Fin):Sem Fin:=do
 (do let _ ←call (.builtin "list.append") [acc,←eval elt env])
 k
theorem w6(elt target iter:Expr)(ifs:List Expr)(scope:Scope)(pos:Pos)(it acc:Value)(env:Env) :
  compTurn (.ListComp elt [⟨target,iter,ifs,0⟩] scope pos) 0 it acc env=turnOf ⟨target,iter,ifs,0⟩ (jm elt acc env) (.compLoop (.ListComp elt [⟨target,iter,ifs,0⟩] scope pos) 0 it acc env) it env:=rfl
def oh(prog:Program)(w:World)(A:Around)(bodyK:Sem Fin->Sem Fin)(W:(Shared->Prop)->Shared->Prop):Prop:=
 ∀(k:Sem Fin) (Q:Fin->Shared->Prop) (E:Value->Shared->Prop) (s:Shared),W (fun s'=>wpAny (model prog w) A k Q E s') s->wpAny (model prog w) A (bodyK k) Q E s
theorem xY{elt:Expr}{acc:Value}{env:Env}:oh prog w A (jm elt acc env) (fun P s=>wpAny (model prog w) A (eval elt env) (fun x s1=>wpAny (model prog w) A (call (.builtin "list.append") [acc,x]) (fun _ s2=>P s2) (fun _ _=>False) s1) (fun _ _=>False) s):=by
 intro k Q E s h
 unfold jm
 exact wpAny_bind (wpAny_bind (wpAny_mono h (fun x s1 h1=>wpAny_bind (wpAny_mono h1 (fun _ s2 h2=>wpAny_pure h2) fun _ _ z=>z.elim)) fun _ _ z=>z.elim))
theorem Am {elt:Expr}{gens:List Comprehension}{scope:Scope}{pos:Pos}{depth:Nat}{g:Comprehension}{bodyK:Sem Fin->Sem Fin}{W:(Shared->Prop)->Shared->Prop}{it acc:Value}{env:Env} (I:Nat->Shared->Prop)
  (hturn:compTurn (.ListComp elt gens scope pos) depth it acc env=turnOf g bodyK (.compLoop (.ListComp elt gens scope pos) depth it acc env) it env) (hW:oh prog w A bodyK W)
  (turn:∀ n s,I n s->wpAny (model prog w) A (pyNext it) (fun r s₁=>match r with
    |none=>R (.ok .next) s₁
    |some v=>wpAny (model prog w) A (letOwnedTupleGo g.target it v) (fun _ s₂=>wpAny (model prog w) A (assign g.target env v) (fun _ s₃=>
      wpAny (model prog w) A (mJ g.ifs env) (fun ok s₄=>if ok=true then W (fun s₅=>∃m,m<n∧I m s₅) s₄ else ∃m,m<n∧I m s₄) (fun _ _=>False) s₃) (fun _ _=>False) s₂) (fun _ _=>False) s₁) (fun _ _=>False) s)
  (hmono:∀P P' s,(∀s,P s->P' s)->W P s->W P' s)
  (n:Nat) (h:I n s):codeAny (model prog w) A (.compLoop (.ListComp elt gens scope pos) depth it acc env) R s:=by
 refine codeAny_loop rfl I (fun n s hI=>?_) n h
 show wpAny _ A ((compTurn (.ListComp elt gens scope pos) depth it acc env).onRaise (fun x=>do noteFrame x env;theTreesLotGoes x)) _ _ s
 refine wpAny_noted ?_
 rw[hturn]
 unfold turnOf
 refine wpAny_bind (wpAny_standAt (wpAny_bind (wpAny_mono (turn n s hI) (fun r s₁ h₁=>?_) fun _ _ h'=>h'.elim)))
 cases r with
 |none=>exact wpAny_pure h₁
 | some v=>
   refine wpAny_bind (wpAny_mono h₁ (fun _ s₂ h₂=>wpAny_bind (wpAny_mono h₂ (fun _ s₃ h₃=>wpAny_bind (wpAny_mono h₃ (fun ok s₄ h₄=>?_) fun _ _ h'=>h'.elim)) fun _ _ h'=>h'.elim)) fun _ _ h'=>h'.elim)
   cases ok with
   |false=>
     have h₄:∃m,m<n∧I m s₄:=h₄
     exact wpAny_pure ⟨rfl,h₄⟩
   |true=>
     have h₄:W (fun s₅=>∃m,m<n∧I m s₅) s₄:=h₄
     exact hW _ _ _ _ (hmono _ _ _ (fun s₅ h₅=>wpAny_pure ⟨rfl,h₅⟩) h₄)
theorem lL {elt:Expr}{gens:List Comprehension}{scope:Scope}{pos:Pos}{depth:Nat}{g:Comprehension}{it acc:Value}{env:Env} (hg:gens[depth]?=some g) (ha:g.is_async=0)
  (h0:codeAny (model prog w) A (.compLoop (.ListComp elt gens scope pos) depth it acc env) R s)
  (h:wpAny (model prog w) A (pyIter it) (fun it' s'=>codeAny (model prog w) A (.compLoop (.ListComp elt gens scope pos) depth it' acc env) R s') (fun _ _=>False) s) :
  codeAny (model prog w) A (.compStart (.ListComp elt gens scope pos) depth it acc env) R s:=by
 refine codeAny_of_tree ?_
 show wpAny _ _ ((compStart (.ListComp elt gens scope pos) depth it acc env).onRaise (fun x=>do noteFrame x env;standAt theWindowsPlace)) _ _ s
 refine wpAny_notedAt ?_
 unfold compStart
 have e1:(((clausesOf (.ListComp elt gens scope pos))[depth]?).elim false (·.is_async != 0))=false:=by
  show ((gens[depth]?).elim false (·.is_async != 0))=false
  rw[hg]
  show (g.is_async != 0)=false
  rw[ha];rfl
 rw[e1]
 simp only[Bool.false_eq_true,if_false,pure_bind]
 refine wpAny_bind (wpAny_askSetting (wpAny_ite ?_))
 split
 ·first
   |exact wpAny_bind (wpAny_pure (wpAny_pure (And.intro rfl h0)))
   |exact wpAny_pure (And.intro rfl h0)
 ·refine wpAny_bind (wpAny_rule ?_)
  have e2:(clausesOf (.ListComp elt gens scope pos))[depth]?=some g:=hg
  rw[e2]
  exact wpAny_bind (wpAny_standAt (wpAny_bind (wpAny_mono h (fun it' s' h'=>wpAny_pure (And.intro rfl h')) fun _ _ x=>x.elim)))
end
structure Trav(B:Heap)(l:List Env)(e:Addr)(c a v:Value)(h:Heap):Prop where
 st:B.StaysIn h
 en:B.get? e=none
 ff:h.FunFrames B l
 tr:h.TracedAtW B e c a v
section
variable{M:Model}{A:Around}{E:Value->Shared->Prop}{s:Shared}{B:Heap}{l outer:List Env}{e L:Addr}{c a v:Value}{env:Env}
theorem Trav.mark(T:Trav B l e c a v s.heap)(f:Option Addr){Q:Unit->Shared->Prop}(k:∀h',Trav B l e c a (f.elim .none fun f=>rawInt f) h'->s.heap.UpToSlots h'->Q () { s with heap:=h' }) :
  wpAny M A (setFlight (.ref e) f) Q E s:=by
 obtain⟨st,en,ff,oe,vs,tb,ob,us,g1,g2,g3,g4,g5,g6,g7,g8,g9⟩:=T
 have hz:3<us.size:=(Array.getElem?_eq_some_iff.mp g9).1
 have ot:∀b,b≠tb->(s.heap.update tb (Obj.mapFields (·.setIfInBounds 3 (f.elim Value.none fun f=>rawInt f)))).get? b=s.heap.get? b:=fun b n=>Heap.get?_update_other _ _ (Ne.symm n)
 have nr:∀b o,s.heap.get? b=some o->(∀vs,o.data≠.fields vs)->b≠tb:=fun b o hb nf q=>by
  subst q
  rw[g7] at hb
  cases hb
  exact nf us g8
 unfold setFlight
 refine wpAny_bind (wpAny_field g1 g3 g4 ?_)
 have hn:(Value.ref tb != Value.none)=true:=by simp
 rw[if_pos hn]
 refine wpAny_setField g7 g8 hz (k _ ⟨fun b o q=>?_,en,?_,?_⟩ fun b o q nf=>⟨o.slots,(ot b (nr b o q nf)).trans q⟩)
 ·exact (ot b fun z=>by subst z;rw[g5] at q;cases q).trans (st b o q)
 ·exact ff.of_keeps fun b o q nf=>⟨o,(ot b (nr b o q nf)).trans q,rfl⟩
 ·exact⟨oe,vs,tb,_,_,(ot e (Ne.symm g6)).trans g1,g2,g3,g4,g5,g6,Heap.get?_update_self _ g7 (Obj.isFreed_of_fields (Obj.data_mapFields g8 _)),Obj.data_mapFields g8 _,by simp[hz]⟩
theorem Trav.leaves (T:Trav B (env::outer) e c a v s.heap) (hfr:A.frames=some (env::outer)) (hf:env.frame=some L) {Q:Unit->Shared->Prop} (k:∀ h',Heap.FlyingW B outer e c a h'->s.heap.UpToSlots h'->Q () { s with heap:=h' }) :
  wpAny M A (leaving env (.ref e)) Q E s:=by
 by_cases hv:v=rawInt L
 ·subst hv
  unfold leaving
  refine wpAny_bind (wpAny_noteFrame_againW hf T.tr ?_)
  exact T.mark none fun h' T' up=>k h' ⟨T'.st,T'.en,T'.ff.2.2,T'.tr⟩ up
 ·obtain⟨st,en,ff,oe,vs,tb,ob,us,g1,⟨g2,g0⟩,g3,g4,g5,g6,g7,g8,g9⟩:=T
  subst g2
  have hz:3<us.size:=(Array.getElem?_eq_some_iff.mp g9).1
  have ot:∀b,b≠tb->(s.heap.update tb (Obj.mapFields (·.setIfInBounds 3 Value.none))).get? b=s.heap.get? b:=fun b n=>Heap.get?_update_other _ _ (Ne.symm n)
  have nr:∀b o,s.heap.get? b=some o->(∀vs,o.data≠.fields vs)->b≠tb:=fun b o hb nf q=>by
   subst q
   rw[g7] at hb
   cases hb
   exact nf us g8
  unfold leaving noteFrame
  simp only[hf]
  refine wpAny_bind (wpAny_bind (wpAny_field g1 g3 g4 ?_))
  have hn:(Value.ref tb != Value.none)=true:=by simp
  rw[if_pos hn]
  refine wpAny_bind (wpAny_field g7 g8 g9 ?_)
  have hv':¬ ((v==rawInt L)=true):=by simpa using hv
  rw[if_neg hv']
  refine wpAny_bind (wpAny_setField g7 g8 hz ?_)
  refine wpAny_newEntryW hfr (ff.of_keeps fun b o q nf=>⟨o,(ot b (nr b o q nf)).trans q,rfl⟩) hf ((ot e (Ne.symm g6)).trans g1) (fun b o q=>?_) en g3 (Array.getElem?_eq_some_iff.mp g4).1 g0 fun h' hL=>?_
  ·exact (ot b fun z=>by subst z;rw[g5] at q;cases q).trans (st b o q)
  ·obtain⟨k1,⟨_,_,k2⟩,k3,k4⟩:=hL
   exact k h' ⟨k1,en,k2,k3⟩ fun b o q nf=>k4 b o ((ot b (nr b o q nf)).trans q) nf
theorem Trav.but {C:Addr}{h h':Heap} (T:Trav B l e c a v h) (hs:Heap.SameBut C h h') {o:Obj} (hC:B.get? C=some o):Trav (PySem.W.hideAll B [C]) l e c a v h':=by
 have un:∀b,B.get? b=none->(PySem.W.hideAll B [C]).get? b=none:=fun b hb=>by
  cases z:(PySem.W.hideAll B [C]).get? b with
  |none=>rfl
  |some o'=>rw[PySem.W.of_hideAll _ z] at hb;cases hb
 have ne:∀b,B.get? b=none->b≠C:=fun b hb z=>by subst z;rw[hC] at hb;cases hb
 have hid:(PySem.W.hideAll B [C]).get? C=none:=PySem.W.hideAll_none _ (.head _)
 obtain⟨st,en,ff,oe,vs,tb,ob,us,g1,g2,g3,g4,g5,g6,g7,g8,g9⟩:=T
 refine⟨fun b o q=>?_,un _ en,?_,oe,vs,tb,ob,us,(hs.2 e (ne e en)).trans g1,g2,g3,g4,un _ g5,g6,(hs.2 tb (ne tb g5)).trans g7,g8,g9⟩
 ·have nb:b≠C:=fun z=>by subst z;rw[hid] at q;cases q
  exact (hs.2 b nb).trans (st b o (PySem.W.of_hideAll _ q))
 ·clear g1 g2 g3 g4 g5 g6 g7 g8 g9
  induction l with
  |nil=>trivial
  |cons env rest ih=>
    obtain⟨hk,⟨L,o,hf,hn,ho,hd⟩,hr⟩:=ff
    exact⟨hk,⟨L,o,hf,un _ hn,(hs.2 L (ne L hn)).trans ho,hd⟩,ih hr⟩
theorem Trav.passOn(T:Trav B l e c a v s.heap){what:String}(k:∀v' h',Trav B l e c a v' h'->s.heap.UpToSlots h'->E (.ref e) { s with heap:=h' }) :
  wpAny M A (passOn what (.ref e) env:Sem Value) (fun _ _=>False) E s:=by
 obtain⟨oe,vs,tb,ob,us,g1,g2,g3,g4,_⟩:=id T.tr
 unfold PySem.passOn
 refine wpAny_bind (wpAny_field g1 g3 g4 ?_)
 have hn:¬ ((Value.ref tb==Value.none)=true):=by simp
 rw[if_neg hn]
 exact wpAny_bind (T.mark env.frame fun h' T' up=>wpAny_throw (k _ h' T' up))
theorem ux {fs ex:List Addr}{H H':Hp}{h0 h h' B:Heap} (u:Un fs ex H H' h0 h) (hB:B.StaysIn h) (hB':B.StaysIn h') (up:h.UpToSlots h')
  (fr:∀b∈fs,∃o,h.get? b=some o∧∀vs,o.data≠.fields vs) (cov:∀b o,h0.get? b=some o->b∉fs->b∉ex->∃o',B.get? b=some o'):Un fs ex H H' h0 h' where
 keep b o e n hb hx:=by
  have h1:=u.keep b o e n hb hx
  obtain⟨o',e'⟩:=cov b o e hb hx
  have h2:=hB b o' e'
  rw[h1] at h2;cases h2
  exact hB' b o e'
 slot b o e n hb hx:=by
  obtain⟨sl,h1⟩:=u.slot b o e n hb hx
  obtain⟨o1,h2,nf⟩:=fr b hb
  rw[h1] at h2;cases h2
  obtain⟨sl2,h3⟩:=up b _ h1 nf
  exact⟨sl2,h3⟩
 free:=u.free
 there b o e hx:=by
  by_cases hb:b∈fs
  ·obtain⟨o1,h2,nf⟩:=fr b hb
   obtain⟨sl2,h3⟩:=up b _ h2 nf
   exact⟨_,h3⟩
  ·obtain⟨o',e'⟩:=cov b o e hb hx
   exact⟨o',hB' b o' e'⟩
 tups:=u.tups
 frzs:=u.frzs
 tbls:=u.tbls
theorem Un.wide{fs ex:List Addr}{H H':Hp}{h h':Heap}(u:Un fs [] H H' h h'):Un fs ex H H' h h' where
 keep b o e n hb _:=u.keep b o e n hb (by simp)
 slot b o e n hb _:=u.slot b o e n hb (by simp)
 free b o e n _:=u.free b o e n (by simp)
 there b o e _:=u.there b o e (by simp)
 tups:=u.tups
 frzs:=u.frzs
 tbls:=u.tbls
end
abbrev Cx.withX(Y:Cx)(xe:Value->Shared->Prop):Cx:={ Y with xe:=xe }
theorem Inv.toX{Y:Cx}{xe:Value->Shared->Prop}{pins:List (Addr×Obj)}{σ:St}{H:Hp}{s:Shared}(I:Inv Y pins σ H s):Inv (Y.withX xe) pins σ H s:=
 ⟨⟨I.ok.mod,I.ok.kind,I.ok.glob,I.ok.blt,I.ok.above,I.ok.inj,I.ok.has,I.ok.cab,I.ok.hd,I.ok.frames,I.ok.stk,I.ok.exf,I.ok.bs,I.ok.bsz,I.ok.noex,I.ok.exfs,I.ok.funs,I.ok.frf⟩,I.os,I.bare,I.base,I.loc,I.cell,I.free,I.freeC,I.pin,I.hok,I.len⟩
theorem Inv.ofX{Y:Cx}{xe:Value->Shared->Prop}{pins:List (Addr×Obj)}{σ:St}{H:Hp}{s:Shared}(I:Inv (Y.withX xe) pins σ H s):Inv Y pins σ H s:=
 ⟨⟨I.ok.mod,I.ok.kind,I.ok.glob,I.ok.blt,I.ok.above,I.ok.inj,I.ok.has,I.ok.cab,I.ok.hd,I.ok.frames,I.ok.stk,I.ok.exf,I.ok.bs,I.ok.bsz,I.ok.noex,I.ok.exfs,I.ok.funs,I.ok.frf⟩,I.os,I.bare,I.base,I.loc,I.cell,I.free,I.freeC,I.pin,I.hok,I.len⟩
def RX(Y:Cx)(Eh:XK):Value->Shared->Prop:=fun e s'=>∃pins σ H s,Inv Y pins σ H s∧bw Y.prog Y.w Y.stack H s Eh e s'
theorem BR{Y:Cx}{Eh:XK}:Passes (bw Y.prog Y.w) (Y.withX (RX Y Eh)) Eh:=fun pins σ H s e s' I hf=>⟨pins,σ,H,s,I.ofX,hf⟩
section
variable{P:Program}{w:World}{K:PySem.W.Frag}{mg:Str->Option Value}{base:Heap}{N:List Str}{qual:Str}{scope:Scope}{f:Addr}{cd:Value}{A:Around}{outer:List Env}{s:Shared}{H:Hp}{E:XK}
theorem vX {pins pins4:List (Addr×Obj)}{σ σ4:St}{H2 H4:Hp}{s2 s4 s':Shared}{sc:Scope}{cs:List (Str×Addr)}{Nc:List Str}{fp:List Addr}{C:Addr}{e acc:Value}{Q:Value->Shared->Prop}
  (I2:Inv (aH P w K mg base N qual scope f cd A outer s H E) pins σ H2 s2) (f2:∀b∈fp,FpOk (aH P w K mg base N qual scope f cd A outer s H E) pins H2 b) (hC:s2.heap.objs.size≤C)
  (I4:Inv ((aH P w K mg base N qual scope f cd A outer s H E).aP pins sc cs Nc fp C s2 H2) pins4 σ4 H4 s4) (hf:bw P w (aH P w K mg base N qual scope f cd A outer s H E).stack H4 s4 E e s') :
  wpAny (model P w) (aH P w K mg base N qual scope f cd A outer s H E).A (noteFrame e ((aH P w K mg base N qual scope f cd A outer s H E).aP pins sc cs Nc fp C s2 H2).env)
   (fun _ s5=>compPost (model P w) (aH P w K mg base N qual scope f cd A outer s H E).A (aH P w K mg base N qual scope f cd A outer s H E).xe none Q acc C (.error e) s5) (fun _ _=>False) s':=by
 obtain⟨x,cl,a0,H',B,rfl,os,bare,un,hok,fl,ci,cii,q⟩:=hf
 have hfr:(aH P w K mg base N qual scope f cd A outer s H E).A.frames=some ((aH P w K mg base N qual scope f cd A outer s H E).env::outer):=I2.ok.frames
 have hfrm:(aH P w K mg base N qual scope f cd A outer s H E).env.frame=some (aH P w K mg base N qual scope f cd A outer s H E).env.locals:=rfl
 obtain⟨m4,hn4,_⟩:=id I4.loc
 have hn4:s4.heap.Ns C m4:=hn4
 obtain⟨oC,es,ep,hoC,hdC,rC⟩:=id hn4
 have hCf:C∉frs (aH P w K mg base N qual scope f cd A outer s H E).stack:=fun hm=>by
  rcases List.mem_cons.mp (I2.stkSub _ hm) with z | z
  ·exact absurd I2.lt (by rw[←z];exact Nat.not_lt.mpr hC)
  ·exact I2.nofs hC z
 have h4C:H4 C=none:=I4.free
 have h'C:H' C=none:=un.free C oC hoC h4C (by simp)
 have e'C:s'.heap.get? C=some oC:=un.keep C oC hoC h4C hCf (by simp)
 obtain⟨oB,hB⟩:=cii C oC hoC hCf
 have cov4:∀b o,s2.heap.get? b=some o->b∉frs (aH P w K mg base N qual scope f cd A outer s H E).stack->b∉fp->∃o',B.get? b=some o':=fun b o e hb hx=>by
  obtain⟨o1,h1⟩:=I4.base.there b o e hx
  exact cii b o1 h1 hb
 have u':Un (frs (aH P w K mg base N qual scope f cd A outer s H E).stack) fp H2 H' s2.heap s'.heap:=Un.trans I4.base un.wide
 have fs':∀(h:Heap) (B:Heap),h.FunFrames B ((aH P w K mg base N qual scope f cd A outer s H E).env::outer)->∀b∈frs (aH P w K mg base N qual scope f cd A outer s H E).stack,∃o,h.get? b=some o∧∀vs,o.data≠.fields vs:=fun h B ff b hb=>(ff.mem hb).2
 have fl':Heap.FlyingW B ((aH P w K mg base N qual scope f cd A outer s H E).env::outer) x cl a0 s'.heap:=fl
 show wpAny (model P w) _ (noteFrame (.ref x) (aH P w K mg base N qual scope f cd A outer s H E).env) _ _ s'
 refine wpAny_looks_onW hfr hfrm fl' fun h5 held up5=>?_
 have T5:Trav B ((aH P w K mg base N qual scope f cd A outer s H E).env::outer) x cl a0 (rawInt (aH P w K mg base N qual scope f cd A outer s H E).env.locals) h5:=⟨held.1,held.2.1,held.2.2.1,held.2.2.2⟩
 have u5:=ux u' fl.1 T5.st up5 (fs' _ _ fl.2.2.1) cov4
 have ok5:=dg hok fl.1 T5.st ci
 have n5:h5.Ns C m4:=up5.ns ⟨oC,es,ep,e'C,hdC,rC⟩
 refine⟨m4,n5,fun h6 hsb cenv _=>?_⟩
 have u6:=uw u5 hsb hC
 have ok6:=pZ ok5 hsb h'C
 have T6:=T5.but hsb hB
 have bid:∀b o,B.get? b=some o->b≠C->(PySem.W.hideAll B [C]).get? b=some o:=fun b o e n=>PySem.W.hideAll_get _ e (by simpa using n)
 have ci6:∀b,H' b≠none->∃o,(PySem.W.hideAll B [C]).get? b=some o:=fun b hb=>by
  obtain⟨o,e⟩:=ci b hb
  exact⟨o,bid b o e fun z=>hb (z ▸ h'C)⟩
 have cov6:∀b o,s2.heap.get? b=some o->b∉frs (aH P w K mg base N qual scope f cd A outer s H E).stack->b∉fp->∃o',(PySem.W.hideAll B [C]).get? b=some o':=fun b o e hb hx=>by
  obtain⟨o',e'⟩:=cov4 b o e hb hx
  exact⟨o',bid b o' e' (Nat.ne_of_lt (Nat.lt_of_lt_of_le (Heap.lt_size e) hC))⟩
 refine T6.passOn (s:={ s' with heap:=h6 }) fun v7 h7 T7 up7=>?_
 have u7:=ux u6 T6.st T7.st up7 (fs' _ _ T6.ff) cov6
 have ok7:=dg ok6 T6.st T7.st ci6
 have J7:Inv (aH P w K mg base N qual scope f cd A outer s H E) pins σ H' { s' with heap:=h7 }:=I2.call' (s':={ s' with heap:=h7 }) (ch:=fp) (os.trans I4.os) u7 ok7 bare (fun b hb=>by
  obtain⟨_,g2,g3,g4,g5,g6⟩:=f2 b hb
  exact⟨g4,g2,g5,g6⟩)
 have cov7:∀b o,s.heap.get? b=some o->b∉frs outer->∃o',(PySem.W.hideAll B [C]).get? b=some o':=fun b o e hb=>by
  obtain⟨o1,h1⟩:=I2.base.there b o e (show b∉([]:List Addr) by simp)
  refine cov6 b o1 h1 (fun hm=>?_) fun hx=>?_
  ·rcases List.mem_cons.mp (I2.stkSub _ hm) with z | z
   ·exact absurd (Heap.lt_size e) (by rw[z];exact Nat.not_lt.mpr I2.ok.above)
   ·exact hb z
  ·obtain⟨_,g2,g3,g4,_⟩:=f2 b hx
   rcases g4 with g4 | g4
   ·cases g4
   ·exact absurd (Heap.lt_size e) (Nat.not_lt.mpr g4)
 show wpAny _ _ (leaving _ (.ref x)) _ _ _
 refine T7.leaves (s:={ s' with heap:=h7 }) hfr hfrm fun h8 fl8 up8=>?_
 exact⟨x,cl,a0,H',_,rfl,J7.os,bare,jc J7.base T7.st fl8.1 up8 (fun b hb=>(T7.ff.2.2.mem hb).2) cov7,dg ok7 T7.st fl8.1 ci6,fl8,ci6,cov7,q⟩
end
section
variable{prog:Program}{w:World}{A:Around}{E:Value->Shared->Prop}{s:Shared}
theorem wG{ia t:Addr}{k:Nat}{its:Array Value}{y:Value}{Q:Value->Shared->Prop}(hi:IsTupIter s.heap ia t k)(ht:IsTup s.heap t its)(hy:its[k]?=some y)
  (hQ:∀h',IsTupIter h' ia t (k+1)->Heap.SameBut ia s.heap h'->Q y { s with heap:=h' }):wpAny (model prog w) A (Builtin.SmallTypes.nextOf (.ref ia)) Q E s:=by
 obtain⟨oi,hoi,hci,hdi⟩:=id hi
 obtain⟨ot,hot,_,nt,hdt⟩:=ht
 unfold Builtin.SmallTypes.nextOf
 refine wpAny_bind (wpAny_callSpecial?_slot (name:=Str.ofString "__next__") hi.typeIs slot_tupleiter_next (wpAny_call_entry slot_tupleiter_next hi.typeIs entry_tupleiter_next ?_ (args_tupleiter_next _)))
 show wpAny _ _ (field (.ref ia) 0>>=_) _ _ s
 refine wpAny_bind (wpAny_field hoi hdi (x:=.ref t) rfl ?_)
 show wpAny _ _ (if (Value.ref t==Value.none)=true then _ else _) _ _ s
 rw[if_neg (fun z:(Value.ref t==Value.none)=true=>Bool.false_ne_true z)]
 show wpAny _ _ (field (.ref ia) 1>>=_) _ _ s
 refine wpAny_bind (wpAny_field hoi hdi (x:=.int k 0) rfl ?_)
 show wpAny _ _ (seqItems? (.ref t)>>=_) _ _ s
 refine wpAny_bind (wpAny_seqItems hot hdt ?_)
 simp only[Int.toNat_natCast,hy]
 refine wpAny_bind (wpAny_setField hoi hdi (by simp) (wpAny_pure ⟨y,rfl,wpAny_pure (hQ _ ⟨_,Heap.get?_update_self _ hoi (Obj.isFreed_of_fields (Obj.data_mapFields hdi _)),(Obj.cls_mapFields ..).trans hci,?_⟩ (Heap.SameBut.update ..))⟩))
 rw[Obj.data_mapFields hdi];simp[rawInt]
theorem uE{ia t:Addr}{k:Nat}{its:Array Value}{Q:Value->Shared->Prop}(hh:A.handled=none)(hi:IsTupIter s.heap ia t k)(ht:IsTup s.heap t its)(hy:its[k]?=none)
  (hE:∀h' e,Heap.ExtBut ia s.heap h'->(∃o,h'.get? e=some o∧o.cls=.type "StopIteration")->E (.ref e) { s with heap:=h' }):wpAny (model prog w) A (Builtin.SmallTypes.nextOf (.ref ia)) Q E s:=by
 obtain⟨oi,hoi,hci,hdi⟩:=id hi
 obtain⟨ot,hot,_,nt,hdt⟩:=ht
 unfold Builtin.SmallTypes.nextOf
 refine wpAny_bind (wpAny_callSpecial?_slot (name:=Str.ofString "__next__") hi.typeIs slot_tupleiter_next (wpAny_call_entry slot_tupleiter_next hi.typeIs entry_tupleiter_next ?_ (args_tupleiter_next _)))
 show wpAny _ _ (field (.ref ia) 0>>=_) _ _ s
 refine wpAny_bind (wpAny_field hoi hdi (x:=.ref t) rfl ?_)
 show wpAny _ _ (if (Value.ref t==Value.none)=true then _ else _) _ _ s
 rw[if_neg (fun z:(Value.ref t==Value.none)=true=>Bool.false_ne_true z)]
 show wpAny _ _ (field (.ref ia) 1>>=_) _ _ s
 refine wpAny_bind (wpAny_field hoi hdi (x:=.int k 0) rfl ?_)
 show wpAny _ _ (seqItems? (.ref t)>>=_) _ _ s
 refine wpAny_bind (wpAny_seqItems hot hdt ?_)
 simp only[Int.toNat_natCast,hy]
 refine wpAny_bind (wpAny_rule (wpAny_bind (wpAny_setField hoi hdi (by simp) ?_)))
 show wpAny _ _ (newExc (.type "StopIteration") ([]:List Value)>>=fun _=>_) _ _ _
 refine wpAny_bind ?_
 simp only[newExc,newTuple]
 refine wpAny_bind (wpAny_newObj_type ?_ (by size_fits:_))
 refine wpAny_bind (m:=firstArgMember _ _) (wpAny_of_eq (a:=Value.none) (by first | rfl | simp only[firstArgMember]) ?_)
 refine wpAny_newObj_type ?_ (by size_fits:_)
 simp only[raiseNew]
 refine wpAny_bind (wpAny_handled ?_)
 first | rw[hh] | rw[show A.in1.handled=none from hh]
 refine wpAny_bind (wpAny_pure (wpAny_throw (hE _ _ (((Heap.SameBut.update ..).extBut.push _).push _) ⟨_,Heap.get?_push_size _ rfl,rfl⟩)))
end
structure SubIt(P:Program)(w:World)(i l:Addr)(its:Array Value)(st:Nat->Heap->Prop):Prop where
 obj:∀k h,st k h->(∃o,h.get? i=some o∧∀v,o.data≠.cell v)∧∃o,h.get? l=some o
 keep:∀k h h',st k h->(∀o,h.get? i=some o->h'.get? i=some o)->(∀o,h.get? l=some o->h'.get? l=some o)->st k h'
 item:∀(A:Around) k (s:Shared) x (Q:Value->Shared->Prop) (E:Value->Shared->Prop),st k s.heap->its[k]?=some x->(∀h',st (k+1) h'->Heap.SameBut i s.heap h'->Q x { s with heap:=h' })->wpAny (model P w) A (Builtin.SmallTypes.nextOf (.ref i)) Q E s
 done:∀(A:Around) k (s:Shared) (Q:Value->Shared->Prop) (E:Value->Shared->Prop),A.handled=none->st k s.heap->its[k]?=none->(∀h' e,Heap.ExtBut i s.heap h'->(∃o,h'.get? e=some o∧o.cls=.type "StopIteration")->E (.ref e) { s with heap:=h' })->wpAny (model P w) A (Builtin.SmallTypes.nextOf (.ref i)) Q E s
theorem Eb{P:Program}{w:World}{i l:Addr}(hne:l≠i)(its:Array Value):SubIt P w i l its (fun k h=>IsTupIter h i l k∧IsTup h l its) where
 obj:=fun k h ⟨⟨o,e,_,d⟩,⟨o',e',_⟩⟩=>⟨⟨o,e,fun v z=>by rw[d] at z;cases z⟩,o',e'⟩
 keep:=fun k h h' ⟨⟨o,e,r⟩,⟨o',e',r'⟩⟩ k1 k2=>⟨⟨o,k1 _ e,r⟩,⟨o',k2 _ e',r'⟩⟩
 item:=fun A k s x Q E st hx hQ=>wG st.1 st.2 hx fun h' h1 h2=>hQ h' ⟨h1,st.2.extBut h2.extBut hne⟩ h2
 done:=fun A k s Q E hh st hx hE=>uE hh st.1 st.2 hx hE
theorem Ea{P:Program}{w:World}{i l:Addr}(hne:l≠i)(its:Array Value):SubIt P w i l its (fun k h=>h.IsListIter i l k∧h.IsList l its) where
 obj:=fun k h ⟨⟨o,e,_,d⟩,⟨o',e',_⟩⟩=>⟨⟨o,e,fun v z=>by rw[d] at z;cases z⟩,o',e'⟩
 keep:=fun k h h' ⟨⟨o,e,r⟩,⟨o',e',r'⟩⟩ k1 k2=>⟨⟨o,k1 _ e,r⟩,⟨o',k2 _ e',r'⟩⟩
 item:=fun A k s x Q E st hx hQ=>wpAny_nextOf_list_item st.1 st.2 hx fun h' h1 h2=>hQ h' ⟨h1,st.2.extBut h2.extBut hne⟩ h2
 done:=fun A k s Q E hh st hx hE=>wpAny_nextOf_list_end hh st.1 st.2 hx hE
section
variable{P:Program}{w:World}{A:Around}{E:Value->Shared->Prop}{s:Shared}{z TI TO i1 i2 l1 l2:Addr}{xs ys:Array Value}{st1 st2:Nat->Heap->Prop}
theorem zH{k:Nat}{x y a b:Value}{Q:Value->Shared->Prop}(D:ZipApart z TI TO i1 i2 l1 l2)(S1:SubIt P w i1 l1 xs st1)(S2:SubIt P w i2 l2 ys st2)
  (hz:IsZip s.heap z TI TO .none) (hTI:IsPair s.heap TI (.ref i1) (.ref i2)) (hTO:IsPair s.heap TO a b) (h1:st1 k s.heap) (h2:st2 k s.heap) (hx:xs[k]?=some x) (hy:ys[k]?=some y)
  (hQ:∀h',IsZip h' z TI TO (rawInt s.heap.objs.size)->IsPair h' TO x y->st1 (k+1) h'->st2 (k+1) h'->IsPair h' s.heap.objs.size x y->h'.objs.size=s.heap.objs.size+1->(∀c o,c≠z->c≠TO->c≠i1->c≠i2->s.heap.get? c=some o->h'.get? c=some o)->Q (.ref s.heap.objs.size) { s with heap:=h' }) :
  wpAny (model P w) A (Builtin.«zip.__next__» ⟨[.ref z],[]⟩) (fun fin s'=>∃v,fin=.done (.ret v)∧Q v s') E s:=by
 show wpAny _ _ (field (.ref z) 2>>=fun _=>_) _ _ _
 refine wpAny_bind (wpAny_field hz rfl (x:=.bool false) rfl (show _ from ?_))
 show wpAny _ _ (field (.ref z) 3>>=fun _=>_) _ _ _
 refine wpAny_bind (wpAny_field hz rfl (x:=.ref TI) rfl (show _ from ?_))
 refine wpAny_bind (wpAny_seqItems hTI rfl (show _ from ?_))
 show wpAny _ _ (Builtin.SmallTypes.ownedTupleIsFree (.ref z)>>=fun _=>_) _ _ _
 refine wpAny_bind ?_
 unfold Builtin.SmallTypes.ownedTupleIsFree
 refine wpAny_bind (wpAny_field hz rfl (x:=.none) rfl (wpAny_pure (show _ from ?_)))
 simp only[if_true]
 refine wpAny_bind (wpAny_rule (show _ from ?_))
 refine wpAny_bind (wpAny_field hz rfl (x:=.ref TO) rfl (show _ from ?_))
 refine wpAny_bind (wpAny_setField_rec hz (by simp) fun g1 hz1 e1=>?_)
 replace hz1:IsZip g1 z TI TO .ellipsis:=hz1
 have n1:=(S1.obj _ _ h1).2
 refine wpAny_bind ?_
 simp only[List.zipIdx_cons,List.zipIdx_nil,List.forIn_cons,List.forIn_nil]
 refine wpAny_bind (wpAny_bind (wpAny_onRaise (show _ from ?_)))
 show wpAny _ _ (Builtin.SmallTypes.nextOf (.ref i1)>>=fun _=>_) _ _ _
 refine wpAny_bind (S1.item _ k _ x _ _ (S1.keep _ _ _ h1 (fun o q=>e1.extBut _ _ D.i1z q) fun o q=>e1.extBut _ _ D.l1z q) hx fun g2 h12 e2=>wpAny_pure ?_)
 have hTO2:IsPair g2 TO a b:=e2.extBut _ _ D.TOi1 (e1.extBut _ _ D.TOz hTO)
 refine wpAny_bind (wpAny_seqItems hTO2 rfl (show _ from ?_))
 refine wpAny_bind (wpAny_updateSeq_pair hTO2 fun g3 hTO3 e3=>?_)
 replace hTO3:IsPair g3 TO x b:=hTO3
 refine wpAny_bind (wpAny_letGo (wpAny_pure (show _ from ?_)))
 refine wpAny_bind (wpAny_bind (wpAny_onRaise (show _ from ?_)))
 show wpAny _ _ (Builtin.SmallTypes.nextOf (.ref i2)>>=fun _=>_) _ _ _
 refine wpAny_bind (S2.item _ k _ y _ _ (S2.keep _ _ _ h2 (fun o q=>e3.extBut _ _ D.TOi2.symm (e2.extBut _ _ D.i12.symm (e1.extBut _ _ D.i2z q))) fun o q=>e3.extBut _ _ D.l2TO (e2.extBut _ _ D.l2i1 (e1.extBut _ _ D.l2z q))) hy fun g4 h24 e4=>wpAny_pure ?_)
 have hTO4:IsPair g4 TO x b:=e4.extBut _ _ D.TOi2 hTO3
 refine wpAny_bind (wpAny_seqItems hTO4 rfl (show _ from ?_))
 refine wpAny_bind (wpAny_updateSeq_pair hTO4 fun g5 hTO5 e5=>?_)
 replace hTO5:IsPair g5 TO x y:=hTO5
 refine wpAny_bind (wpAny_letGo (wpAny_pure (wpAny_pure (show _ from ?_))))
 refine wpAny_bind (wpAny_seqItems hTO5 rfl (show _ from ?_))
 refine wpAny_bind (wpAny_newTuple (show _ from ?_))
 have hsz:g5.objs.size=s.heap.objs.size:=by rw[e5.1,e4.1,e3.1,e2.1,e1.1]
 have hz5:IsZip g5 z TI TO .ellipsis:=e5.extBut _ _ D.TOz.symm (e4.extBut _ _ D.i2z.symm (e3.extBut _ _ D.TOz.symm (e2.extBut _ _ D.i1z.symm hz1)))
 have hk5:∀c o,c≠z->c≠TO->c≠i1->c≠i2->s.heap.get? c=some o->g5.get? c=some o:=fun c o c1 c2 c3 c4 q=>e5.extBut _ _ c2 (e4.extBut _ _ c4 (e3.extBut _ _ c2 (e2.extBut _ _ c3 (e1.extBut _ _ c1 q))))
 have h15:st1 (k+1) g5:=S1.keep _ _ _ h12 (fun o q=>e5.extBut _ _ D.TOi1.symm (e4.extBut _ _ D.i12 (e3.extBut _ _ D.TOi1.symm q))) fun o q=>e5.extBut _ _ D.l1TO (e4.extBut _ _ D.l1i2 (e3.extBut _ _ D.l1TO q))
 have h25:st2 (k+1) g5:=S2.keep _ _ _ h24 (fun o q=>e5.extBut _ _ D.TOi2.symm q) fun o q=>e5.extBut _ _ D.l2TO q
 have hzlt:z<g5.objs.size:=Heap.lt_size hz5
 show wpAny _ _ (Builtin.SmallTypes.ownedTupleHandOut (.ref z) (.ref g5.objs.size)>>=fun _=>_) _ _ _
 refine wpAny_bind ?_
 unfold Builtin.SmallTypes.ownedTupleHandOut
 have hz6:IsZip (g5.push { cls:=.type "tuple",data:=.seq #[x,y] }) z TI TO .ellipsis:=Heap.get?_push_of_some _ hz5
 refine wpAny_bind (wpAny_setField_rec hz6 (by simp) fun g7 hz7 e7=>?_)
 replace hz7:IsZip g7 z TI TO (rawInt g5.objs.size):=hz7
 refine wpAny_setField_rec hz7 (by simp) fun g8 hz8 e8=>?_
 replace hz8:IsZip g8 z TI TO (rawInt g5.objs.size):=hz8
 have up:∀c o,c≠z->g5.get? c=some o->g8.get? c=some o:=fun c o c1 q=>e8.extBut _ _ c1 (e7.extBut _ _ c1 (Heap.get?_push_of_some _ q))
 have hT8:IsPair g8 g5.objs.size x y:=e8.extBut _ _ (Nat.ne_of_gt hzlt) (e7.extBut _ _ (Nat.ne_of_gt hzlt) (Heap.get?_push_size _ rfl))
 have sz8:g8.objs.size=g5.objs.size+1:=by rw[e8.1,e7.1,Heap.size_push]
 rw[hsz] at hz8 hT8 sz8
 refine wpAny_pure ⟨_,rfl,?_⟩
 show Q (.ref g5.objs.size) _
 rw[hsz]
 exact hQ g8 hz8 (up _ _ D.TOz hTO5) (S1.keep _ _ _ h15 (fun o q=>up _ o D.i1z q) fun o q=>up _ o D.l1z q) (S2.keep _ _ _ h25 (fun o q=>up _ o D.i2z q) fun o q=>up _ o D.l2z q) hT8 sz8 fun c o c1 c2 c3 c4 q=>up c o c1 (hk5 c o c1 c2 c3 c4 q)
theorem Bm {k:Nat}{a b:Value}{Q:Fin->Shared->Prop} (hh:A.handled=none) (D:ZipApart z TI TO i1 i2 l1 l2) (S1:SubIt P w i1 l1 xs st1) (S2:SubIt P w i2 l2 ys st2)
  (hz:IsZip s.heap z TI TO .none) (hTI:IsPair s.heap TI (.ref i1) (.ref i2)) (hTO:IsPair s.heap TO a b) (h1:st1 k s.heap) (h2:st2 k s.heap) (hend:xs[k]?=none∨ys[k]?=none)
  (hE:∀h' e,(∀c o,c≠z->c≠TO->c≠i1->c≠i2->s.heap.get? c=some o->h'.get? c=some o)->(∃o,h'.get? e=some o∧o.cls=.type "StopIteration")->E (.ref e) { s with heap:=h' }) :
  wpAny (model P w) A (Builtin.«zip.__next__» ⟨[.ref z],[]⟩) Q E s:=by
 show wpAny _ _ (field (.ref z) 2>>=fun _=>_) _ _ _
 refine wpAny_bind (wpAny_field hz rfl (x:=.bool false) rfl (show _ from ?_))
 show wpAny _ _ (field (.ref z) 3>>=fun _=>_) _ _ _
 refine wpAny_bind (wpAny_field hz rfl (x:=.ref TI) rfl (show _ from ?_))
 refine wpAny_bind (wpAny_seqItems hTI rfl (show _ from ?_))
 show wpAny _ _ (Builtin.SmallTypes.ownedTupleIsFree (.ref z)>>=fun _=>_) _ _ _
 refine wpAny_bind ?_
 unfold Builtin.SmallTypes.ownedTupleIsFree
 refine wpAny_bind (wpAny_field hz rfl (x:=.none) rfl (wpAny_pure (show _ from ?_)))
 simp only[if_true]
 refine wpAny_bind (wpAny_rule (show _ from ?_))
 refine wpAny_bind (wpAny_field hz rfl (x:=.ref TO) rfl (show _ from ?_))
 refine wpAny_bind (wpAny_setField_rec hz (by simp) fun g1 hz1 e1=>?_)
 replace hz1:IsZip g1 z TI TO .ellipsis:=hz1
 refine wpAny_bind ?_
 simp only[List.zipIdx_cons,List.zipIdx_nil,List.forIn_cons,List.forIn_nil]
 refine wpAny_bind (wpAny_bind (wpAny_onRaise (show _ from ?_)))
 show wpAny _ _ (Builtin.SmallTypes.nextOf (.ref i1)>>=fun _=>_) _ _ _
 have h11:st1 k g1:=S1.keep _ _ _ h1 (fun o q=>e1.extBut _ _ D.i1z q) fun o q=>e1.extBut _ _ D.l1z q
 cases hx:xs[k]? with
 |none=>
   refine wpAny_bind (S1.done _ k _ _ _ hh h11 hx fun g2 e e2 he=>?_)
   obtain⟨oe,hoe,hce⟩:=he
   have hz2:IsZip g2 z TI TO .ellipsis:=e2 _ _ D.i1z.symm hz1
   have hez:e≠z:=fun q=>by subst q;rw[hz2] at hoe;cases hoe;simp at hce
   refine wpAny_setField_rec hz2 (by simp) fun g3 _ e3=>hE g3 e (fun c o c1 _ c3 _ q=>e3.extBut _ _ c1 (e2 _ _ c3 (e1.extBut _ _ c1 q))) ⟨oe,e3.extBut _ _ hez hoe,hce⟩
 |some x=>
   have hy:ys[k]?=none:=by rcases hend with q | q;rw[hx] at q;cases q;exact q
   refine wpAny_bind (S1.item _ k _ x _ _ h11 hx fun g2 h12 e2=>wpAny_pure ?_)
   have hTO2:IsPair g2 TO a b:=e2.extBut _ _ D.TOi1 (e1.extBut _ _ D.TOz hTO)
   refine wpAny_bind (wpAny_seqItems hTO2 rfl (show _ from ?_))
   refine wpAny_bind (wpAny_updateSeq_pair hTO2 fun g3 hTO3 e3=>?_)
   refine wpAny_bind (wpAny_letGo (wpAny_pure (show _ from ?_)))
   refine wpAny_bind (wpAny_bind (wpAny_onRaise (show _ from ?_)))
   show wpAny _ _ (Builtin.SmallTypes.nextOf (.ref i2)>>=fun _=>_) _ _ _
   refine wpAny_bind (S2.done _ k _ _ _ hh (S2.keep _ _ _ h2 (fun o q=>e3.extBut _ _ D.TOi2.symm (e2.extBut _ _ D.i12.symm (e1.extBut _ _ D.i2z q))) fun o q=>e3.extBut _ _ D.l2TO (e2.extBut _ _ D.l2i1 (e1.extBut _ _ D.l2z q))) hy fun g4 e e4 he=>?_)
   obtain⟨oe,hoe,hce⟩:=he
   have hz4:IsZip g4 z TI TO .ellipsis:=e4 _ _ D.i2z.symm (e3.extBut _ _ D.TOz.symm (e2.extBut _ _ D.i1z.symm hz1))
   have hez:e≠z:=fun q=>by subst q;rw[hz4] at hoe;cases hoe;simp at hce
   refine wpAny_setField_rec hz4 (by simp) fun g5 _ e5=>hE g5 e (fun c o c1 c2 c3 c4 q=>e5.extBut _ _ c1 (e4 _ _ c4 (e3.extBut _ _ c2 (e2.extBut _ _ c3 (e1.extBut _ _ c1 q))))) ⟨oe,e5.extBut _ _ hez hoe,hce⟩
end
abbrev Ck(h:Heap)(T1:String)(l1:Addr):Heap:=h.push { cls:=.type T1,data:=.fields #[.ref l1,.int 0 0] }
abbrev Cm(h:Heap)(T1 T2:String)(l1 l2:Addr):Heap:=(Ck h T1 l1).push { cls:=.type T2,data:=.fields #[.ref l2,.int 0 0] }
abbrev Cp(h:Heap)(T1 T2:String)(l1 l2:Addr):Heap:=(Cm h T1 T2 l1 l2).push { cls:=.type "tuple",data:=.seq #[.ref h.objs.size,.ref (Ck h T1 l1).objs.size] }
abbrev m9(h:Heap)(T1 T2:String)(l1 l2:Addr):Heap:=(Cp h T1 T2 l1 l2).push { cls:=.type "tuple",data:=.seq #[.none,.none] }
abbrev je(h:Heap)(T1 T2:String)(l1 l2:Addr):Heap:=(m9 h T1 T2 l1 l2).push { cls:=.type "zip",data:=.fields #[.none,.bool false,.bool false,.ref (Cm h T1 T2 l1 l2).objs.size,.ref (Cp h T1 T2 l1 l2).objs.size] }
theorem tU(l1 l2:Addr)(xs ys:Array Value) :
  Meets (Builtin.«zip.__new__» ⟨[.type "zip",.ref l1,.ref l2],[]⟩) (fun _ R s=>IsTup s.heap l1 xs∧IsTup s.heap l2 ys∧R (.ok (.ret (.ref (m9 s.heap "tuple_iterator" "tuple_iterator" l1 l2).objs.size))) { s with heap:=je s.heap "tuple_iterator" "tuple_iterator" l1 l2 }):=
 .of_wp fun prog w A R s h=>by
  obtain⟨hp,gn,dr,tk,os⟩:=s;obtain⟨k1,k2,h⟩:=h
  have hsub:=sub_zip
  have K1:IsTup (Shared.heap ⟨hp,gn,dr,tk,os⟩) l1 xs:=k1
  have K2:IsTup (Shared.heap ⟨hp.push { cls:=.type "tuple_iterator",data:=.fields #[.ref l1,.int 0 0] },gn,dr,tk,os⟩) l2 ys:=k2.push _
  wp_walk using iter_tuple K1,iter_tuple K2
  exact⟨_,rfl,h⟩
theorem tQ(l1 l2:Addr)(xs ys:Array Value) :
  Meets (Builtin.«zip.__new__» ⟨[.type "zip",.ref l1,.ref l2],[]⟩) (fun _ R s=>s.heap.IsList l1 xs∧IsTup s.heap l2 ys∧R (.ok (.ret (.ref (m9 s.heap "list_iterator" "tuple_iterator" l1 l2).objs.size))) { s with heap:=je s.heap "list_iterator" "tuple_iterator" l1 l2 }):=
 .of_wp fun prog w A R s h=>by
  obtain⟨hp,gn,dr,tk,os⟩:=s;obtain⟨k1,k2,h⟩:=h
  have hsub:=sub_zip
  have K1:Heap.IsList (Shared.heap ⟨hp,gn,dr,tk,os⟩) l1 xs:=k1
  have K2:IsTup (Shared.heap ⟨hp.push { cls:=.type "list_iterator",data:=.fields #[.ref l1,.int 0 0] },gn,dr,tk,os⟩) l2 ys:=k2.push _
  wp_walk using wpAny_pyIter_list K1,iter_tuple K2
  exact⟨_,rfl,h⟩
theorem tR(l1 l2:Addr)(xs ys:Array Value) :
  Meets (Builtin.«zip.__new__» ⟨[.type "zip",.ref l1,.ref l2],[]⟩) (fun _ R s=>IsTup s.heap l1 xs∧s.heap.IsList l2 ys∧R (.ok (.ret (.ref (m9 s.heap "tuple_iterator" "list_iterator" l1 l2).objs.size))) { s with heap:=je s.heap "tuple_iterator" "list_iterator" l1 l2 }):=
 .of_wp fun prog w A R s h=>by
  obtain⟨hp,gn,dr,tk,os⟩:=s;obtain⟨k1,k2,h⟩:=h
  have hsub:=sub_zip
  have K1:IsTup (Shared.heap ⟨hp,gn,dr,tk,os⟩) l1 xs:=k1
  have K2:Heap.IsList (Shared.heap ⟨hp.push { cls:=.type "tuple_iterator",data:=.fields #[.ref l1,.int 0 0] },gn,dr,tk,os⟩) l2 ys:=Heap.IsList.push k2 _
  wp_walk using iter_tuple K1,wpAny_pyIter_list K2
  exact⟨_,rfl,h⟩
theorem tO(l1 l2:Addr)(xs ys:Array Value) :
  Meets (Builtin.«zip.__new__» ⟨[.type "zip",.ref l1,.ref l2],[]⟩) (fun _ R s=>s.heap.IsList l1 xs∧s.heap.IsList l2 ys∧R (.ok (.ret (.ref (m9 s.heap "list_iterator" "list_iterator" l1 l2).objs.size))) { s with heap:=je s.heap "list_iterator" "list_iterator" l1 l2 }):=
 .of_wp fun prog w A R s h=>by
  obtain⟨hp,gn,dr,tk,os⟩:=s;obtain⟨k1,k2,h⟩:=h
  have hsub:=sub_zip
  have K1:Heap.IsList (Shared.heap ⟨hp,gn,dr,tk,os⟩) l1 xs:=k1
  have K2:Heap.IsList (Shared.heap ⟨hp.push { cls:=.type "list_iterator",data:=.fields #[.ref l1,.int 0 0] },gn,dr,tk,os⟩) l2 ys:=Heap.IsList.push k2 _
  wp_walk using wpAny_pyIter_list K1,wpAny_pyIter_list K2
  exact⟨_,rfl,h⟩
def dG(b:Bool)(h:Heap)(l:Addr)(xs:Array Value):Prop:=if b then IsTup h l xs else h.IsList l xs
def oE(b:Bool)(i l:Addr)(xs:Array Value)(k:Nat)(h:Heap):Prop:=(if b then IsTupIter h i l k else h.IsListIter i l k)∧dG b h l xs
theorem mH{P:Program}{w:World}{i l:Addr}(b:Bool)(hne:l≠i)(its:Array Value):SubIt P w i l its (oE b i l its):=by
 cases b with
 |true=>exact Eb hne its
 |false=>exact Ea hne its
theorem dG.lt{b:Bool}{h:Heap}{l:Addr}{xs:Array Value}(q:dG b h l xs):l<h.objs.size:=by
 cases b with
 |true=>obtain⟨o,e,_⟩:=(show IsTup h l xs from q);exact Heap.lt_size e
 |false=>obtain⟨o,e,_⟩:=(show h.IsList l xs from q);exact Heap.lt_size e
theorem dG.keep{b:Bool}{h h':Heap}{l:Addr}{xs:Array Value}(q:dG b h l xs)(k:∀o,h.get? l=some o->h'.get? l=some o):dG b h' l xs:=by
 cases b with
 |true=>obtain⟨o,e,r⟩:=(show IsTup h l xs from q);exact⟨o,k _ e,r⟩
 |false=>obtain⟨o,e,r⟩:=(show h.IsList l xs from q);exact⟨o,k _ e,r⟩
section
variable{P:Program}{w:World}{A:Around}{E:Value->Shared->Prop}{s:Shared}{l1 l2:Addr}{xs ys:Array Value}
theorem xQ {b1 b2:Bool}{Q:Value->Shared->Prop} (k1:dG b1 s.heap l1 xs) (k2:dG b2 s.heap l2 ys)
  (h:∀h',IsZip h' (s.heap.objs.size+4) (s.heap.objs.size+2) (s.heap.objs.size+3) .none->IsPair h' (s.heap.objs.size+2) (.ref s.heap.objs.size) (.ref (s.heap.objs.size+1))->IsPair h' (s.heap.objs.size+3) .none .none->
    oE b1 s.heap.objs.size l1 xs 0 h'->oE b2 (s.heap.objs.size+1) l2 ys 0 h'->h'.objs.size=s.heap.objs.size+5->(∀c o,s.heap.get? c=some o->h'.get? c=some o)->Q (.ref (s.heap.objs.size+4)) { s with heap:=h' }) :
  wpAny (model P w) A (call (.type "zip") [.ref l1,.ref l2]) Q E s:=by
 have fin:∀T1 T2,(∀h' k,h'.get? s.heap.objs.size=some { cls:=.type T1,data:=.fields #[.ref l1,.int 0 0] }->dG b1 h' l1 xs->k=0->oE b1 s.heap.objs.size l1 xs k h')->
   (∀h' k,h'.get? (s.heap.objs.size+1)=some { cls:=.type T2,data:=.fields #[.ref l2,.int 0 0] }->dG b2 h' l2 ys->k=0->oE b2 (s.heap.objs.size+1) l2 ys k h')->
   s.TypeIs (.ref (m9 s.heap T1 T2 l1 l2).objs.size) "zip"∨True->Q (.ref (m9 s.heap T1 T2 l1 l2).objs.size) { s with heap:=je s.heap T1 T2 l1 l2 }∧({ s with heap:=je s.heap T1 T2 l1 l2 }:Shared).TypeIs (.ref (m9 s.heap T1 T2 l1 l2).objs.size) "zip":=by
  intro T1 T2 f1 f2 _
  have z1:(Ck s.heap T1 l1).objs.size=s.heap.objs.size+1:=Heap.size_push ..
  have z2:(Cm s.heap T1 T2 l1 l2).objs.size=s.heap.objs.size+2:=by rw[Heap.size_push,z1]
  have z3:(Cp s.heap T1 T2 l1 l2).objs.size=s.heap.objs.size+3:=by rw[Heap.size_push,z2]
  have z4:(m9 s.heap T1 T2 l1 l2).objs.size=s.heap.objs.size+4:=by rw[Heap.size_push,z3]
  have z5:(je s.heap T1 T2 l1 l2).objs.size=s.heap.objs.size+5:=by rw[Heap.size_push,z4]
  have up:∀c o,s.heap.get? c=some o->(je s.heap T1 T2 l1 l2).get? c=some o:=fun c o q=>Heap.get?_push_of_some _ (Heap.get?_push_of_some _ (Heap.get?_push_of_some _ (Heap.get?_push_of_some _ (Heap.get?_push_of_some _ q))))
  have q5:(je s.heap T1 T2 l1 l2).get? (m9 s.heap T1 T2 l1 l2).objs.size=some _:=Heap.get?_push_size _ rfl
  have q4:(je s.heap T1 T2 l1 l2).get? (Cp s.heap T1 T2 l1 l2).objs.size=some _:=Heap.get?_push_of_some _ (Heap.get?_push_size _ rfl)
  have q3:(je s.heap T1 T2 l1 l2).get? (Cm s.heap T1 T2 l1 l2).objs.size=some _:=Heap.get?_push_of_some _ (Heap.get?_push_of_some _ (Heap.get?_push_size _ rfl))
  have q2:(je s.heap T1 T2 l1 l2).get? (Ck s.heap T1 l1).objs.size=some _:=Heap.get?_push_of_some _ (Heap.get?_push_of_some _ (Heap.get?_push_of_some _ (Heap.get?_push_size _ rfl)))
  have q1:(je s.heap T1 T2 l1 l2).get? s.heap.objs.size=some _:=Heap.get?_push_of_some _ (Heap.get?_push_of_some _ (Heap.get?_push_of_some _ (Heap.get?_push_of_some _ (Heap.get?_push_size _ rfl))))
  rw[z2,z3,z4] at q5
  rw[z1,z2] at q3
  rw[z3] at q4
  rw[z1] at q2
  rw[z4]
  exact⟨h _ q5 q3 q4 (f1 _ 0 q1 (k1.keep fun o q=>up _ _ q) rfl) (f2 _ 0 q2 (k2.keep fun o q=>up _ _ q) rfl) z5 up,_,q5,rfl⟩
 cases b1 with
 | true=>cases b2 with
   |true=>
     refine callType_new F.called_zip (by decide) (F.typeCall_zip_2 _ _) (F.newCall_zip_2 _ _) (fun obj=>F.args_object_init_3 obj _ _) F.entry_zip_new (tU l1 l2 xs ys) ⟨k1,k2,?_⟩
     obtain⟨a1,a2⟩:=fin "tuple_iterator" "tuple_iterator" (fun h' k q q' e=>by subst e;exact⟨⟨_,q,rfl,rfl⟩,q'⟩) (fun h' k q q' e=>by subst e;exact⟨⟨_,q,rfl,rfl⟩,q'⟩) (.inr trivial)
     exact⟨a2,a1⟩
   |false=>
     refine callType_new F.called_zip (by decide) (F.typeCall_zip_2 _ _) (F.newCall_zip_2 _ _) (fun obj=>F.args_object_init_3 obj _ _) F.entry_zip_new (tR l1 l2 xs ys) ⟨k1,k2,?_⟩
     obtain⟨a1,a2⟩:=fin "tuple_iterator" "list_iterator" (fun h' k q q' e=>by subst e;exact⟨⟨_,q,rfl,rfl⟩,q'⟩) (fun h' k q q' e=>by subst e;exact⟨⟨_,q,rfl,rfl⟩,q'⟩) (.inr trivial)
     exact⟨a2,a1⟩
 | false=>cases b2 with
   |true=>
     refine callType_new F.called_zip (by decide) (F.typeCall_zip_2 _ _) (F.newCall_zip_2 _ _) (fun obj=>F.args_object_init_3 obj _ _) F.entry_zip_new (tQ l1 l2 xs ys) ⟨k1,k2,?_⟩
     obtain⟨a1,a2⟩:=fin "list_iterator" "tuple_iterator" (fun h' k q q' e=>by subst e;exact⟨⟨_,q,rfl,rfl⟩,q'⟩) (fun h' k q q' e=>by subst e;exact⟨⟨_,q,rfl,rfl⟩,q'⟩) (.inr trivial)
     exact⟨a2,a1⟩
   |false=>
     refine callType_new F.called_zip (by decide) (F.typeCall_zip_2 _ _) (F.newCall_zip_2 _ _) (fun obj=>F.args_object_init_3 obj _ _) F.entry_zip_new (tO l1 l2 xs ys) ⟨k1,k2,?_⟩
     obtain⟨a1,a2⟩:=fin "list_iterator" "list_iterator" (fun h' k q q' e=>by subst e;exact⟨⟨_,q,rfl,rfl⟩,q'⟩) (fun h' k q q' e=>by subst e;exact⟨⟨_,q,rfl,rfl⟩,q'⟩) (.inr trivial)
     exact⟨a2,a1⟩
end
section
variable{X:Cx}{pins:List (Addr×Obj)}{σ:St}{H:Hp}{s:Shared}{h':Heap}
theorem Inv.turnedL{t':Nat}{ch:List Addr}(I:Inv X pins σ H s)(k:∀b o,b∉ch->s.heap.get? b=some o->h'.get? b=some o)(hf:∀b∈ch,FpOk X pins H b)(hL:∀b∈ch,b≠X.env.locals):Inv X pins σ H { s with heap:=h',toks:=t' }:=by
 have nit:∀b u,H b=some u->b∉ch:=fun b u e z=>by have:=(hf b z).1;rw[e] at this;cases this
 refine I.step (g':=s.gens) (d':=s.drawn) (ch:=ch) (fun b hb=>?_) (fun b o _ _ hc e _=>k b o hc e) (fun b o _ _ hc e _=>⟨o.slots,k b o hc e⟩) (fun _ _ _ _ n=>n)
  (fun b o hc e=>⟨o,k b o hc e⟩) (fun _ _ e=>e) (fun _ _ _ e=>e) (fun b ps e=>⟨#[],by rw[e];simp⟩) (fun m hm=>?_) (fun b u e=>?_) I.bare
 ·obtain⟨_,f1,_,f3,f4,f5⟩:=hf b hb
  exact⟨f3,f1,f4,f5⟩
 ·obtain⟨o,es,ep,ho,r⟩:=hm
  exact⟨o,es,ep,k _ o (fun z=>(hL _ z) rfl) ho,r⟩
 ·refine (I.hok b u e).stay (fun c v hc q=>k c v ?_ q) (fun _ q=>q) fun _ _ q=>q
  rcases hc with z | z
  ·rw[z];exact nit b u e
  ·exact nit c _ z
theorem Inv.turnedLay {t':Nat}{ch:List Addr}{p:Addr}{o:HO} (I:Inv X pins σ H s) (k:∀ b o,b∉ch->s.heap.get? b=some o->h'.get? b=some o) (hf:∀ b∈ch,FpOk X pins H b) (hp:s.heap.objs.size≤p) (new:ObjOk X.prog X.w (upd H p o) h' p o):Inv X pins σ (upd H p o) { s with heap:=h',toks:=t' }:=by
 have nit:∀b u,H b=some u->b∉ch:=fun b u e z=>by have:=(hf b z).1;rw[e] at this;cases this
 have hn:H p=none:=I.hok.fresh hp
 have tr:∀b u,H b=some u->upd H p o b=some u:=fun b u e=>by rw[upd_ne (ne_of_none e hn)];exact e
 refine I.step (g':=s.gens) (d':=s.drawn) (ch:=ch) (fun b hb=>?_) (fun b o _ _ hc e _=>k b o hc e) (fun b o _ _ hc e _=>⟨o.slots,k b o hc e⟩) (fun b u _ e n=>by rw[upd_ne (Nat.ne_of_lt (Nat.lt_of_lt_of_le (Heap.lt_size e) hp))];exact n)
  (fun b o hc e=>⟨o,k b o hc e⟩) (fun b xs e=>tr b _ e) (fun b _ _ e=>tr b _ e) (fun b ps e=>⟨#[],by rw[tr b _ e];simp⟩) (fun m hm=>?_) (fun b u e=>?_) I.bare
 ·obtain⟨_,f1,_,f3,f4,f5⟩:=hf b hb
  exact⟨f3,f1,f4,f5⟩
 ·obtain⟨o,es,ep,ho,r⟩:=hm
  exact⟨o,es,ep,k _ o (fun z=>(hf _ z).2.1 rfl) ho,r⟩
 ·by_cases z:b=p
  ·subst z
   rw[upd_same] at e;cases e
   exact new
  ·rw[upd_ne z] at e
   refine (I.hok b u e).stay (fun c v hc q=>k c v ?_ q) (fun c q=>tr c _ q) (fun c xs q=>tr c _ q) fun c o q=>tr c _ q
   rcases hc with y | y
   ·rw[y];exact nit b u e
   ·exact nit c _ y
end
def mO(b:Bool)(K:PySem.W.Frag)(H:Hp)(l:Addr)(xs:List V):Prop:=if b then SqT K H l xs else SqL K H l xs
theorem Inv.seqS{X:Cx}{pins:List (Addr×Obj)}{σ:St}{H:Hp}{s:Shared}{b:Bool}{l:Addr}{xs:List V}(I:Inv X pins σ H s)(h:mO b X.K H l xs):∃its:List Value,Vals xs its∧dG b s.heap l its.toArray∧xs.length≤sizeLine:=by
 cases b with
 |true=>obtain⟨its,r,p,z⟩:=I.tuple (show SqT X.K H l xs from h);exact⟨its,r,p,z⟩
 |false=>obtain⟨its,r,p,z⟩:=I.list (show SqL X.K H l xs from h);exact⟨its,r,p.isList,z⟩
theorem Inv.seqS_inj{X:Cx}{pins:List (Addr×Obj)}{σ:St}{H:Hp}{s:Shared}{b:Bool}{l:Addr}{xs ys:List V}(I:Inv X pins σ H s)(h:mO b X.K H l xs)(q:mO b X.K H l ys):xs=ys:=by
 cases b with
 |true=>exact I.tuple_inj (show SqT X.K H l xs from h) q
 |false=>exact I.list_inj (show SqL X.K H l xs from h) q
def dF(b:Bool)(i l:Addr)(k:Nat)(h:Heap):Prop:=if b then IsTupIter h i l k else h.IsListIter i l k
theorem dF.keep{b:Bool}{i l:Addr}{k:Nat}{h h':Heap}(q:dF b i l k h)(kk:∀o,h.get? i=some o->h'.get? i=some o):dF b i l k h':=by
 cases b with
 |true=>obtain⟨o,e,r⟩:=(show IsTupIter h i l k from q);exact⟨o,kk _ e,r⟩
 |false=>obtain⟨o,e,r⟩:=(show h.IsListIter i l k from q);exact⟨o,kk _ e,r⟩
theorem dF.obj{b:Bool}{i l:Addr}{k:Nat}{h:Heap}(q:dF b i l k h):∃o,h.get? i=some o∧∀v,o.data≠.cell v:=by
 cases b with
 |true=>obtain⟨o,e,_,d⟩:=(show IsTupIter h i l k from q);exact⟨o,e,fun v z=>by rw[d] at z;cases z⟩
 |false=>obtain⟨o,e,_,d⟩:=(show h.IsListIter i l k from q);exact⟨o,e,fun v z=>by rw[d] at z;cases z⟩
def Im(K:PySem.W.Frag)(b1 b2:Bool)(l1 l2:Addr):It:=
 ⟨fun i H=>∃xs ys x y,mO b1 K H l1 xs∧mO b2 K H l2 ys∧xs[i]?=some x∧ys[i]?=some y,
  fun i H v H'=>∃p,H p=none∧v=.ref p∧∀xs ys,mO b1 K H l1 xs->mO b2 K H l2 ys->∃x y,xs[i]?=some x∧ys[i]?=some y∧H'=upd H p (.tup [x,y]),
  fun i H=>∃xs ys,mO b1 K H l1 xs∧mO b2 K H l2 ys∧(xs[i]?=none∨ys[i]?=none)⟩
theorem mW{P:Program}{w:World}{A:Around}{E:Value->Shared->Prop}{s:Shared}{z TI TO:Addr}{f0:Value}{Q:Option Value->Shared->Prop}(hz:IsZip s.heap z TI TO f0)
  (h:wpAny (model P w) A.in1 (Builtin.«zip.__next__» ⟨[.ref z],[]⟩) (fun fin s'=>∃v,fin=.done (.ret v)∧Q (some v) s') (fun e s'=>∃o ea,e=.ref ea∧s'.heap.get? ea=some o∧o.cls=.type "StopIteration"∧Q none s') s):wpAny (model P w) A (pyNext (.ref z)) Q E s:=by
 have hT:s.TypeIs (.ref z) "zip":=⟨_,hz,rfl⟩
 unfold pyNext
 refine wpAny_bind (wpAny_attempt (wpAny_callSpecial?_slot (name:=Str.ofString "__next__") hT F.slot_zip_next (wpAny_call_entry F.slot_zip_next hT F.entry_zip_next (wpAny_mono h (fun fin s' q=>?_) fun e s' q=>?_) (F.args_zip_next_1 _))))
 ·obtain⟨v,rfl,q⟩:=q
  exact⟨v,rfl,wpAny_pure q⟩
 ·obtain⟨o,ea,rfl,ho,hc,q⟩:=q
  exact wpAny_bind (wpAny_isInstance (T := "StopIteration") (b:=true) ⟨o,ho,hc⟩ isSubtype_stop (wpAny_pure q))
theorem Bj {P:Program}{w:World}{K:PySem.W.Frag}{elts:List Expr}{x1}{tp:Pos}{b1 b2:Bool}{z TI TO i1 i2 l1 l2:Addr} (D:ZipApart z TI TO i1 i2 l1 l2) :
  Turn P w K (.Tuple elts x1 tp) (Im K b1 b2 l1 l2) [z,TI,TO,i1,i2] z (fun i h=>IsZip h z TI TO .none∧IsPair h TI (.ref i1) (.ref i2)∧(∃a b,IsPair h TO a b)∧dF b1 i1 l1 i h∧dF b2 i2 l2 i h) where
 mem:=by simp
 obj:=fun i h st b hb=>by
  obtain⟨hz,hTI,⟨a,c,hTO⟩,h1,h2⟩:=st
  simp only[List.mem_cons,List.mem_nil_iff,or_false] at hb
  rcases hb with rfl | rfl | rfl | rfl | rfl
  ·exact⟨_,hz,fun v q=>by cases q⟩
  ·exact⟨_,hTI,fun v q=>by cases q⟩
  ·exact⟨_,hTO,fun v q=>by cases q⟩
  ·exact h1.obj
  ·exact h2.obj
 keep:=fun i h h' st k=>by
  obtain⟨hz,hTI,⟨a,c,hTO⟩,h1,h2⟩:=st
  exact⟨k z (by simp) _ hz,k TI (by simp) _ hTI,⟨a,c,k TO (by simp) _ hTO⟩,h1.keep fun o q=>k i1 (by simp) o q,h2.keep fun o q=>k i2 (by simp) o q⟩
 item:=by
  intro X hP hw hK hc i pins s σ H E I hf st hg
  subst hP hw hK
  obtain⟨hz,hTI,⟨a,c,hTO⟩,h1,h2⟩:=st
  obtain⟨xs,ys,x,y,s1,s2,hx,hy⟩:=hg
  obtain⟨its1,r1,q1,_⟩:=I.seqS s1
  obtain⟨its2,r2,q2,_⟩:=I.seqS s2
  obtain⟨u1,e1,ru1⟩:=r1.get hx
  obtain⟨u2,e2,ru2⟩:=r2.get hy
  refine mW hz (wpAny_mono (zH D (mH b1 D.l1i1 its1.toArray) (mH b2 D.l2i2 its2.toArray) hz hTI hTO ⟨h1,q1⟩ ⟨h2,q2⟩ (by simpa using e1) (by simpa using e2) (Q:=fun v s'=>∃h',v=.ref s.heap.objs.size∧s'={ s with heap:=h' }∧IsZip h' z TI TO (rawInt s.heap.objs.size)∧IsPair h' TO u1 u2∧dF b1 i1 l1 (i+1) h'∧dF b2 i2 l2 (i+1) h'∧IsPair h' s.heap.objs.size u1 u2∧(∀c o,c≠z->c≠TO->c≠i1->c≠i2->s.heap.get? c=some o->h'.get? c=some o)) (E:=fun _ _=>False)
   fun h' a1 a2 a3 a4 a5 a6 a7=>⟨h',rfl,rfl,a1,a2,a3.1,a4.1,a5,a7⟩) (fun fin s' q=>?_) fun _ _ q=>q.elim)
  obtain⟨v,rfl,h',rfl,rfl,a1,a2,a3,a4,a5,a7⟩:=q
  refine⟨_,rfl,_,rfl,wpAny_letOwnedTupleGo_zip a1 fun h2' hz' hs'=>?_⟩
  have lt:z<s.heap.objs.size:=Heap.lt_size hz
  have kk:∀b o,b∉[z,TI,TO,i1,i2]->s.heap.get? b=some o->h2'.get? b=some o:=fun b o hb q=>hs'.extBut _ _ (fun e=>hb (by simp[e])) (a7 b o (fun e=>hb (by simp[e])) (fun e=>hb (by simp[e])) (fun e=>hb (by simp[e])) (fun e=>hb (by simp[e])) q)
  have fresh:H s.heap.objs.size=none:=I.hok.fresh (Nat.le_refl _)
  have I1:Inv X pins σ H { s with heap:=h2',toks:=s.toks }:=I.turnedL kk hf (fun b hb=>(hf b hb).2.1)
  have pr:IsPair h2' s.heap.objs.size u1 u2:=hs'.extBut _ _ (Nat.ne_of_gt lt) a5
  have nw:ObjOk X.prog X.w (upd H s.heap.objs.size (.tup [x,y])) h2' s.heap.objs.size (.tup [x,y]):=⟨by show 2≤sizeLine;decide,[u1,u2],.cons ru1 (.cons ru2 .nil),⟨_,pr,rfl,_,rfl⟩⟩
  have nfp:∀b∈[z,TI,TO,i1,i2],b≠s.heap.objs.size:=fun b hb e=>by
   obtain⟨o,ho,_⟩:∃o,s.heap.get? b=some o∧True:=by
    simp only[List.mem_cons,List.mem_nil_iff,or_false] at hb
    rcases hb with rfl | rfl | rfl | rfl | rfl
    ·exact⟨_,hz,trivial⟩
    ·exact⟨_,hTI,trivial⟩
    ·exact⟨_,hTO,trivial⟩
    ·obtain⟨o,q,_⟩:=h1.obj;exact⟨o,q,trivial⟩
    ·obtain⟨o,q,_⟩:=h2.obj;exact⟨o,q,trivial⟩
   exact absurd (Heap.lt_size ho) (by rw[e];exact Nat.lt_irrefl _)
  refine⟨.ref s.heap.objs.size,upd H s.heap.objs.size (.tup [x,y]),?_,rfl,⟨_,fresh,rfl,fun xs' ys' q1' q2'=>⟨x,y,by rw[I.seqS_inj q1' s1];exact hx,by rw[I.seqS_inj q2' s2];exact hy,rfl⟩⟩,⟨hz',?_,⟨u1,u2,hs'.extBut _ _ D.TOz a2⟩,a3.keep fun o q=>hs'.extBut _ _ D.i1z q,a4.keep fun o q=>hs'.extBut _ _ D.i2z q⟩,fun b hb=>by rw[upd_ne (nfp b hb)];exact (hf b hb).1⟩
  ·exact I.turnedLay (t':=s.toks) kk hf (Nat.le_refl _) nw
  ·exact hs'.extBut _ _ D.TIz (a7 _ _ D.TIz D.TITO D.TIi1 D.TIi2 hTI)
 done:=by
  intro X hP hw hK hc i pins s σ H E I hf st hg
  subst hP hw hK
  obtain⟨hz,hTI,⟨a,c,hTO⟩,h1,h2⟩:=st
  obtain⟨xs,ys,s1,s2,hend⟩:=hg
  obtain⟨its1,r1,q1,_⟩:=I.seqS s1
  obtain⟨its2,r2,q2,_⟩:=I.seqS s2
  have hend':its1.toArray[i]?=none∨its2.toArray[i]?=none:=hend.imp (fun q=>by simpa using r1.none_of q) fun q=>by simpa using r2.none_of q
  refine mW hz (Bm (show X.A.in1.handled=none from I.ok.hd hc) D (mH b1 D.l1i1 its1.toArray) (mH b2 D.l2i2 its2.toArray) hz hTI hTO ⟨h1,q1⟩ ⟨h2,q2⟩ hend' fun h' e kk he=>?_)
  obtain⟨o,ho,hco⟩:=he
  exact⟨o,e,rfl,ho,hco,rfl,I.turnedL (t':=s.toks) (fun b o hb q=>kk b o (fun e=>hb (by simp[e])) (fun e=>hb (by simp[e])) (fun e=>hb (by simp[e])) (fun e=>hb (by simp[e])) q) hf (fun b hb=>(hf b hb).2.1)⟩
 self:=fun _ _ _ _ _ st h=>wpAny_pyIter_zip st.1 h
theorem vN:bootBuiltins "list"=some (.type "list"):=by decide +kernel
theorem q8:∀ (vs:List Value) (k:Nat),(∀ (j:Nat) v,vs[j]?=some v->∃ t,v=.int ((k + j:Nat):Int) t)->Vals ((List.range' k vs.length).map fun i:Nat=>V.int (i:Int)) vs
 |[],k,_=>.nil
 | v::vs,k,h=>by
   have h0:=h 0 v rfl
   have ih:=q8 vs (k+1) fun j u e=>by
    have:=h (j+1) u (by simpa using e)
    rw[show k+1+j=k+(j+1) by omega];exact this
   rw[List.length_cons,List.range'_succ,List.map_cons]
   exact .cons h0 ih
section
variable{X:Cx}
def Ig(ta:TA):TE:=fun σ H Q=>ta σ H fun vs H1=>∃j:Int,vs=[.int j]∧j≤2^20∧-(2^62)≤j∧∀l,H1 l=none->Q (.ref l) (upd H1 l (.lst ((List.range j.toNat).map fun i:Nat=>V.int (i:Int))))
theorem yS {a:Expr}{ta:TA}{p1 p2 pos1 pos2:Pos} (hc:X.calm=true) (hgL:Gl X "list") (hmL:X.mg "list"=none) (hg:Gl X "range") (hm:X.mg "range"=none) (ha:PA X [a] ta) (hs:notStar a=true:=by rfl) :
  PE X (.Call (.Name "list" p1) [.Call (.Name "range" p2) [a] [] pos2] [] pos1) (Ig ta):=by
 intro pins s σ H Q I h
 have hst:starEach [Expr.Call (.Name "range" p2) [a] [] pos2] X.env=(false,eval (.Call (.Name "range" p2) [a] [] pos2) X.env)::starEach [] X.env:=aX rfl
 refine Call_ (ld_blt I hgL hmL vN (PyProof.Rows.callWith_type1 ?_ hst rfl))
 rw[hst]
 show wpAny _ _ (spliced ((false,eval (.Call (.Name "range" p2) [a] [] pos2) X.env)::[])) _ _ s
 refine Calls.spliced_cons ?_
 refine Call_ (ld_blt I hg hm boot_range (PyProof.Rows.callWith_type1 (thn (ha pos2 pins s σ H _ I h) fun us s1 ⟨vs,H1,I1,r1,q1⟩=>?_) (aX hs) rfl))
 obtain⟨j,e,q1,q2,q⟩:=q1
 subst e
 cases r1 with
 | cons r rr=>
   cases rr
   obtain⟨t,rfl⟩:=r
   refine call_range_1 ?_
   refine Calls.spliced_nil ?_
   have rs:Builtin.Range.rangeSize 0 j 1=((j.toNat:Nat):Int):=by rw[rangeSize_one];split<;>omega
   refine call_list_range (n:=j.toNat) (I1.ok.hd hc) (IsRange.new ..) (small_one (by omega) (by omega) q2 (by omega)) rs (by omega) fun h' tk acc c k1 k2 k3=>?_
   have vl:Vals ((List.range j.toNat).map fun i:Nat=>V.int (i:Int)) acc.toList:=by
    have:=q8 acc.toList 0 fun i v e=>by
     obtain⟨t,rfl⟩:=k3.2 i v (by simpa using e)
     exact⟨t,by congr 1;omega⟩
    rw[List.range_eq_range']
    rw[show acc.toList.length=j.toNat by simpa using k3.1] at this
    exact this
   refine⟨.ref _,upd H1 _ (.lst ((List.range j.toNat).map fun i:Nat=>V.int (i:Int))),?_,rfl,q _ (I1.hok.fresh ?_)⟩
   ·refine I1.turnedLay (ch:=[]) (t':=tk) (fun b o _ e=>k1 b o (Heap.get?_push_of_some _ e)) (fun b hb=>nomatch hb) ?_ ⟨?_,acc.toList,c,vl,k2⟩
    ·rw[Heap.size_push];omega
    ·rw[List.length_map,List.length_range];show _≤2^24;omega
   ·rw[Heap.size_push];omega
end
end L2
namespace L2
open PySem PySem.Spec PyProof.Rows
open PySem.AutoSeq1 (wpAny_loadPart')
open PySem PySem.Spec PyProof.Rows
end L2
namespace LS
open PySem
def iJ(xs:Array Nat):Prop:=xs.toList.Pairwise (·< ·)
theorem iJ.lt{xs:Array Nat}(h:iJ xs){a b:Nat}(hab:a<b)(hb:b<xs.size):xs[a]<xs[b]:=by
 have:=List.pairwise_iff_getElem.mp h a b (by simpa using Nat.lt_trans hab hb) (by simpa using hb) hab
 simpa using this
structure Bel(xs:Array Nat)(j r:Nat):Prop where
 le:r≤xs.size
 lo:∀k (hk:k<xs.size),k<r->xs[k]<j
 hi:∀k (hk:k<xs.size),r≤k->j≤xs[k]
theorem ni {xs:Array Nat}{j:Nat} (h:iJ xs):∀ (fuel lo hi:Nat),hi - lo≤fuel->lo≤hi->hi≤xs.size->(∀ k (hk:k<xs.size),k<lo->xs[k]<j)->(∀ k (hk:k<xs.size),hi≤k->j≤xs[k])->Bel xs j (SetTable.below.go xs j fuel lo hi)
 |0,lo,hi,hf,hl,hs,h1,h2=>by
   unfold SetTable.below.go
   have:lo=hi:=by omega
   subst this
   exact⟨hs,h1,h2⟩
 | fuel + 1,lo,hi,hf,hl,hs,h1,h2=>by
   unfold SetTable.below.go
   by_cases c:lo<hi
   ·rw[if_pos c]
    dsimp only
    have hm:(lo+hi) / 2<hi:=by omega
    have hm':lo≤(lo+hi) / 2:=by omega
    generalize (lo+hi) / 2=mid at hm hm'
    have hms:mid<xs.size:=by omega
    have e:xs.getD mid j=xs[mid]:=by rw[Array.getD_eq_getD_getElem?,Array.getElem?_eq_getElem hms];rfl
    rw[e]
    by_cases c2:xs[mid]<j
    ·rw[if_pos c2]
     refine ni h fuel (mid+1) hi (by omega) (by omega) hs (fun k hk hkm=>?_) h2
     by_cases q:k=mid
     ·subst q;exact c2
     ·have:=h.lt (show k<mid by omega) hms;omega
    ·rw[if_neg c2]
     refine ni h fuel lo mid (by omega) hm' (by omega) h1 (fun k hk hkm=>?_)
     by_cases q:k=mid
     ·subst q;omega
     ·have:=h.lt (show mid<k by omega) hk;omega
   ·rw[if_neg c]
    have:lo=hi:=by omega
    subst this
    exact⟨hs,h1,h2⟩
theorem ik{xs:Array Nat}(h:iJ xs)(j:Nat):Bel xs j (SetTable.below xs j):=by
 unfold SetTable.below
 exact ni h xs.size 0 xs.size (by omega) (by omega) (Nat.le_refl _) (fun k hk z=>by omega) (fun k hk z=>by omega)
theorem below_at{xs:Array Nat}(h:iJ xs){i:Nat}(hi:i<xs.size):SetTable.below xs xs[i]=i:=by
 have b:=ik h xs[i]
 generalize SetTable.below xs xs[i]=r at b
 rcases Nat.lt_trichotomy r i with c | c | c
 ·have:=b.hi r (by omega) (Nat.le_refl _)
  have:=h.lt c hi
  omega
 ·exact c
 ·have:=b.lo i hi c
  omega
theorem vM{xs:Array Nat}(h:iJ xs):SetTable.below xs 0=0:=by
 have b:=ik h 0
 generalize SetTable.below xs 0=r at b
 rcases Nat.eq_zero_or_pos r with c | c
 ·exact c
 ·have:=b.le
  have:=b.lo 0 (by omega) c
  omega
theorem vL{xs:Array Nat}(h:iJ xs){i:Nat}(hi:i<xs.size):SetTable.below xs (xs[i]+1)=i+1:=by
 have b:=ik h (xs[i]+1)
 generalize SetTable.below xs (xs[i]+1)=r at b
 have ble:=b.le
 rcases Nat.lt_trichotomy r (i+1) with c | c | c
 ·have:=b.hi i hi (by omega)
  omega
 ·exact c
 ·have l:=b.lo (i+1) (by omega) c
  have:=h.lt (show i<i+1 by omega) (show i+1<xs.size by omega)
  omega
theorem wu {xs:Array Nat} (h:iJ xs) {j:Nat} (hj:j∉xs.toList):iJ (SetTable.insertAt xs (SetTable.below xs j) j):=by
 have b:=ik h j
 unfold iJ
 rw[SetTable.toList_insertAt]
 generalize SetTable.below xs j=r at b
 have h':(xs.toList.take r++xs.toList.drop r).Pairwise (·< ·):=by rw[List.take_append_drop];exact h
 rw[List.pairwise_append] at h' ⊢
 refine⟨h'.1,List.pairwise_cons.mpr ⟨fun x hx=>?_,h'.2.1⟩,fun x hx y hy=>?_⟩
 ·obtain⟨k,hk,rfl⟩:=List.mem_iff_getElem.mp hx
  rw[List.length_drop,Array.length_toList] at hk
  rw[List.getElem_drop]
  have:=b.hi (r+k) (by omega) (by omega)
  have ne:xs.toList[r+k]'(by simp;omega)≠j:=fun z=>hj (z ▸ List.getElem_mem _)
  simp at this ne ⊢
  omega
 ·have lt:x<j:=by
   obtain⟨k,hk,rfl⟩:=List.mem_iff_getElem.mp hx
   rw[List.length_take,Array.length_toList] at hk
   rw[List.getElem_take]
   have:=b.lo k (by omega) (by omega)
   simpa using this
  rcases List.mem_cons.mp hy with rfl | hy
  ·exact lt
  ·exact h'.2.2 x hx y hy
structure TI(L:Bool)(t:SetTable):Prop where
 ris:iJ t.place
 dum:t.dummies=#[]
 led:t.led=L
theorem TI.fresh{L:Bool}(f m:Nat):TI L (.fresh f m L):=⟨List.Pairwise.nil,rfl,rfl⟩
theorem TI.standIn{L:Bool}{t:SetTable}(h:TI L t)(n:Nat):TI L (t.standIn n):=⟨by
 unfold iJ SetTable.standIn
 rw[show (Array.range n).toList=List.range n by simp]
 exact List.pairwise_lt_range,rfl,h.led⟩
theorem TI.orStandIn{L:Bool}{t:SetTable}(h:TI L t)(n:Nat):TI L (t.orStandIn n):=by
 unfold SetTable.orStandIn
 split
 ·exact h
 ·exact h.standIn n
theorem wW{L:Bool}{t:SetTable}(h:TI L t){j:Nat}(e:t.slot j=.empty):j∉t.place.toList:=fun hj=>by
 obtain⟨k,hk,rfl⟩:=List.mem_iff_getElem.mp hj
 have hk':k<t.place.size:=by simpa using hk
 have b:=below_at h.ris hk'
 unfold SetTable.slot at e
 simp only[Array.getElem_toList] at e
 rw[b] at e
 simp[Array.getElem?_eq_getElem hk'] at e
theorem wV{L:Bool}{t:SetTable}(h:TI L t)(j:Nat):t.slot j≠.dummy:=fun e=>by
 unfold SetTable.slot SetTable.has at e
 rw[h.dum] at e
 dsimp only at e
 split at e
 ·cases e
 ·simp at e
theorem mV {L:Bool}{t:SetTable} (ti:TI L t) {ha:Nat->Int}{h:Int}{j:Nat}{d:Option Nat}:∀ (fuel:Nat) (p:SetTable.Probe),p.dummy=none->SetTable.probe.go t ha h fuel p=some (.empty j d)->t.slot j=.empty∧d=none
 |0,p,_,e=>by unfold SetTable.probe.go at e;cases e
 | fuel + 1,p,hp,e=>by
   unfold SetTable.probe.go at e
   split at e
   ·rename_i hs
    cases e
    exact⟨hs,hp⟩
   ·rename_i hs
    exact absurd hs (wV ti _)
   ·split at e
    ·cases e
    ·refine mV ti fuel _ ?_ e
     unfold SetTable.advance
     split<;>exact hp
theorem yE {L:Bool}{t:SetTable} (h:TI L t) (es:Array (Int×Value)) (hs:Int) (x:Value):TI L (layNew t es hs x).2.1:=by
 unfold layNew
 split
 ·rename_i slot wd e
  unfold SetTable.freeSlot SetTable.probe at e
  split at e
  ·rename_i j d em
   obtain⟨h1,h2⟩:=mV h _ _ rfl em
   subst h2
   cases e
   dsimp only
   refine TI.orStandIn (t:=(t.put (none.getD j)).1) (TI.mk ?_ ?_ h.led) _
   ·exact wu h.ris (wW h h1)
   ·show (if SetTable.has t.dummies _ then _ else _)=_
    rw[h.dum]
    split
    ·rename_i c
     unfold SetTable.has at c
     simp at c
    ·rfl
  ·cases e
 ·exact h.standIn _
theorem CZ{L:Bool}{mask finger moves:Nat}{plain:Bool}{hs:Array Int}{r:SetTable×Array Nat}(e:SetTable.laid mask finger moves L plain hs=some r):TI L r.1:=by
 unfold SetTable.laid at e
 obtain⟨owner,_,e2⟩:=Option.bind_eq_some_iff.mp e
 cases e2
 refine⟨?_,rfl,rfl⟩
 unfold iJ
 dsimp only
 rw[List.pairwise_map]
 refine List.Pairwise.filterMap (R:=fun (a b:Nat)=>a<b) _ (fun a b hab x hx y hy=>?_) List.pairwise_lt_range
 obtain⟨_,_,rfl⟩:=Option.map_eq_some_iff.mp hx
 obtain⟨_,_,rfl⟩:=Option.map_eq_some_iff.mp hy
 exact hab
theorem Bg {L:Bool}{t:SetTable} (h:TI L t) (es:Array (Int×Value)) (n:Nat):TI L (relayAll t es n).2.1:=by
 unfold relayAll
 split
 ·rename_i t' order e
  dsimp only
  split
  ·unfold SetTable.relaid at e
   rw[h.led] at e
   exact CZ e
  ·exact h.standIn _
 ·exact h.standIn _
end LS
namespace LS
open PySem PySem.Spec PyProof.Rows
def vInt:Value->Int
 |.int i _=>i
 |_=>0
def fY(l:List (Int×Value)):List Int:=l.map fun e=>vInt e.2
abbrev aZ(es:Array (Int×Value))(ep:Nat)(t:SetTable):Obj:={ cls:=.type "set",dict:=none,data:=.set es ep t }
structure SetG(prog:Program)(w:World)(L:Bool)(h:Heap)(a:Addr)(ks:List Int):Prop where
 ex:∃es ep t,h.get? a=some (aZ es ep t)∧ElemsOf (intKind prog w) es.toList∧(fY es.toList).Perm ks∧t.fits es.size=true∧TI L t∧es.size<scanBound
theorem yr{prog:Program}{w:World}{k:Int}{v:Value}(h:(intKind prog w).is k v=true):∃t,v=.int k t:=by
 have h':Value.isInt k v=true:=h
 cases v<;>simp[Value.isInt] at h'
 subst h'
 exact⟨_,rfl⟩
theorem sX{prog:Program}{w:World}{l:List (Int×Value)}(h:ElemsOf (intKind prog w) l){e:Int×Value}(he:e∈l):∃t,e.2=.int (vInt e.2) t:=by
 obtain⟨⟨k,hk,_⟩,_⟩:=h e he
 obtain⟨t,q⟩:=yr hk
 rw[q]
 exact⟨t,rfl⟩
theorem find_key{prog:Program}{w:World}{l:List (Int×Value)}(h:ElemsOf (intKind prog w) l)(k:Int):(l.findIdx? fun e=>(intKind prog w).is k e.2).isSome=decide (k∈fY l):=by
 rw[Bool.eq_iff_iff,decide_eq_true_eq,List.findIdx?_isSome,List.any_eq_true]
 unfold fY
 rw[List.mem_map]
 constructor
 ·rintro⟨e,he,q⟩
  obtain⟨t,e2⟩:=yr q
  exact⟨e,he,by rw[e2];rfl⟩
 ·rintro⟨e,he,rfl⟩
  obtain⟨t,q⟩:=sX h he
  refine⟨e,he,?_⟩
  rw[q]
  exact intKind_is _ _ _ _
section
variable{prog:Program}{w:World}{A:Around}{E:Value->Shared->Prop}{s:Shared}{L:Bool}
theorem vC{h:Heap}{a:Addr}{es es1:Array (Int×Value)}{ep:Nat}{t t1:SetTable}(ho:h.get? a=some (aZ es ep t)):(h.update a (Obj.putSet es1 t1)).get? a=some (aZ es1 (ep+1) t1):=by
 have q:=Heap.get?_update_self (Obj.putSet es1 t1) ho (by rw[putSet_of es1 t1 rfl];rfl)
 rw[putSet_of es1 t1 rfl] at q
 exact q
theorem zA {g:Bool->Sem Unit} (hg:∀ (b:Bool) (s1:Shared) (R:Unit->Shared->Prop),R () s1->wpAny (model prog w) A (g b) R E s1) {a:Addr}{es es1:Array (Int×Value)}{ep:Nat}{t t2:SetTable}{ks:List Int}{wd:Bool}
  (ho:s.heap.get? a=some (aZ es ep t)) (hel:ElemsOf (intKind prog w) es1.toList) (hp:(fY es1.toList).Perm ks) (hb:es1.size<scanBound) (hf:t2.fits es1.size=true) (ti:TI L t2) {R:Option Bool->Shared->Prop}
  (h:∀h',Heap.SameBut a s.heap h'->SetG prog w L h' a ks->R (some true) { s with heap:=h' }) :
  wpAny (model prog w) A (do
    storeSet a es1 t2
    if (!wd && t2.tooFull)=true then do
        g (relayAll t2 es1 (SetTable.grown es1.size)).2.2
        storeSet a (relayAll t2 es1 (SetTable.grown es1.size)).1 (relayAll t2 es1 (SetTable.grown es1.size)).2.1
        pure (some true)
     else pure (some true)) R E s:=by
 refine wpAny_bind (wpAny_storeSet_of ho rfl ?_ (fits_of_scanBound hb))
 have o1:=vC (es1:=es1) (t1:=t2) ho
 have b1:=Heap.SameBut.update s.heap a (Obj.putSet es1 t2)
 split
 ·have p2:=relayAll_perm t2 es1 (SetTable.grown es1.size)
  have f2:=relayAll_fits t2 es1 (SetTable.grown es1.size)
  have ti2:=Bg ti es1 (SetTable.grown es1.size)
  revert p2 f2 ti2
  generalize relayAll t2 es1 (SetTable.grown es1.size)=Z
  obtain⟨es2,t3,gv⟩:=Z
  dsimp only
  intro p2 f2 ti2
  have sz:es2.size=es1.size:=by rw[←Array.length_toList,p2.length_eq,Array.length_toList]
  refine wpAny_bind (hg _ _ _ (wpAny_bind (wpAny_storeSet_of o1 rfl ?_ (fits_of_scanBound (by rw[sz];exact hb)))))
  refine wpAny_pure (h _ (b1.trans (Heap.SameBut.update _ a _)) ⟨es2,_,t3,vC o1,hel.perm p2,(p2.map _).trans hp,f2,ti2,by rw[sz];exact hb⟩)
 ·exact wpAny_pure (h _ b1 ⟨es1,_,t2,o1,hel,hp,hf,ti,hb⟩)
theorem add_int {a:Addr}{k:Int}{tk:Tok}{ks:List Int}{Q:Bool->Shared->Prop} (hS:SetG prog w L s.heap a ks) (room:ks.length + 1<scanBound)
  (h:∀h' b,Heap.SameBut a s.heap h'->SetG prog w L h' a (if k∈ks then ks else ks++[k])->Q b { s with heap:=h' }):wpAny (model prog w) A (setAddHashed a (.int k tk) ((intKind prog w).hash k)) Q E s:=by
 obtain⟨es,ep,t,ho,hel,hp,hf,ti,hb⟩:=hS.ex
 have kk:(intKind prog w).is k (.int k tk)=true:=intKind_is _ _ _ _
 have len:es.size=ks.length:=by
  have:=hp.length_eq
  unfold fY at this
  rw[List.length_map,Array.length_toList] at this
  exact this
 unfold setAddHashed setAddHashedIn
 refine wpAny_holding (wpAny_bind (wpAny_setState_of ho rfl hf ?_))
 dsimp only
 rw[byScan_of (knd:=intKind prog w) (x:=.int k tk) rfl hb hel,if_pos rfl]
 unfold setAddByScan
 refine wpAny_bind (wpAny_bind (wpAny_rule (wpAny_bind (wpAny_setScan_of kk ho rfl hf hel ?_))))
 have fk:=find_key hel k
 have mk:k∈fY es.toList ↔ k∈ks:=hp.mem_iff
 cases hr:List.findIdx? (fun e=>(intKind prog w).is k e.2) es.toList with
 |some j=>
   rw[hr] at fk
   have hk:k∈ks:=mk.mp (of_decide_eq_true fk.symm)
   have q:=h s.heap false (Heap.SameBut.refl a s.heap) (by rw[if_pos hk];exact hS)
   have e:s={ s with heap:=s.heap }:=by cases s;rfl
   rw[e]
   exact wpAny_pure (wpAny_pure q)
 | none=>
   rw[hr] at fk
   have hk:k∉ks:=fun z=>by
    have:=of_decide_eq_false fk.symm
    exact this (mk.mpr z)
   rw[if_neg hk] at h
   dsimp only
   have p1:=layNew_perm t es ((intKind prog w).hash k) (.int k tk)
   have f1:=layNew_fits t es ((intKind prog w).hash k) (.int k tk)
   have ti1:=yE ti es ((intKind prog w).hash k) (.int k tk)
   revert p1 f1 ti1
   generalize layNew t es ((intKind prog w).hash k) (.int k tk)=Z
   obtain⟨es1,t1,wd,gv⟩:=Z
   dsimp only
   intro p1 f1 ti1
   rw[Array.toList_push] at p1
   have el1:ElemsOf (intKind prog w) es1.toList:=(hel.push kk rfl).perm p1
   have pk:(fY es1.toList).Perm (ks++[k]):=by
    refine (p1.map _).trans ?_
    rw[List.map_append]
    exact hp.append_right _
   have b1:es1.size<scanBound:=by rw[←Array.length_toList,p1.length_eq,List.length_append,Array.length_toList,len];exact room
   have gw:∀(b:Bool) (s1:Shared) (R:Unit->Shared->Prop),R () s1->wpAny (model prog w) A (match b with | true=>rule "set.scan.the-table-gave-way" | false=>pure ()) R E s1:=fun b s1 R hq=>by
    cases b
    ·exact wpAny_pure hq
    ·exact wpAny_rule hq
   refine wpAny_bind (gw gv _ _ ?_)
   split
   ·refine wpAny_bind ?_
    rw[hashByValue_scannable 8 (x:=.int k tk) rfl]
    refine wpAny_pure ?_
    simp only[plainKind,↓reduceIte]
    refine zA ?_ ho el1 pk b1 f1 ti1 ?_
    ·intro b s1 R hq
     cases b
     ·exact wpAny_pure hq
     ·exact wpAny_rule hq
    ·intro h' sb g
     exact wpAny_pure (h h' true sb g)
   ·refine wpAny_bind (wpAny_pure ?_)
    simp only[↓reduceIte]
    refine zA ?_ ho el1 pk b1 f1 ti1 ?_
    ·intro b s1 R hq
     cases b
     ·exact wpAny_pure hq
     ·exact wpAny_rule hq
    ·intro h' sb g
     exact wpAny_pure (h h' true sb g)
end
theorem bu:Slot "set_iterator" "__next__" "set_iterator.__next__":=.of (owner := "set_iterator") (n := "__next__") (by rw[typeLookup_type,builtinLookup_eq_fast];kernel_rfl) (by decide +kernel) (by decide +kernel) (by decide +kernel) (by first | exact .inl (by decide +kernel) | exact .inr (by decide +kernel)) (by rw[isSubtype_type];kernel_rfl)
theorem vy:Slot "set_iterator" "__iter__" "set_iterator.__iter__":=.of (owner := "set_iterator") (n := "__iter__") (by rw[typeLookup_type,builtinLookup_eq_fast];kernel_rfl) (by decide +kernel) (by decide +kernel) (by decide +kernel) (by first | exact .inl (by decide +kernel) | exact .inr (by decide +kernel)) (by rw[isSubtype_type];kernel_rfl)
theorem eN:entryFor table "set_iterator.__next__"=some Builtin.«set_iterator.__next__»:=entryFor_of_fast (by kernel_rfl)
theorem Ae:entryFor table "set_iterator.__iter__"=some Builtin.«dict_keyiterator.__iter__»:=entryFor_alias (id' := "dict_keyiterator.__iter__") (by kernel_rfl) rfl (by decide +kernel) (by kernel_rfl)
theorem rm:entryFor table "set.__iter__"=some Builtin.«frozenset.__iter__»:=entryFor_alias (id' := "frozenset.__iter__") (by kernel_rfl) rfl (by decide +kernel) (by kernel_rfl)
theorem gb(a:Value):argsOk "set_iterator.__next__" ⟨[a],[]⟩:=by unfold argsOk;kernel_rfl
theorem Cq(a:Value):argsOk "set_iterator.__iter__" ⟨[a],[]⟩:=by unfold argsOk;kernel_rfl
theorem u9 {α:Type} (next:Nat->Nat):∀ (fuel k:Nat) (left:List α) (out:Array α),left.length=fuel->(pickOrder.go next fuel k left out).toList.Perm (out.toList++left)
 |0,k,left,out,h=>by
   have:left=[]:=List.length_eq_zero_iff.mp h
   subst this
   unfold pickOrder.go
   simp
 | fuel + 1,k,left,out,h=>by
   unfold pickOrder.go
   have hm:next k%left.length<left.length:=Nat.mod_lt _ (by omega)
   generalize next k%left.length=m at hm
   rw[List.getElem?_eq_getElem hm]
   dsimp only
   refine (u9 next fuel (k+1) (left.eraseIdx m) (out.push left[m]) (by rw[List.length_eraseIdx,if_pos hm];omega)).trans ?_
   rw[Array.toList_push,List.append_assoc]
   refine List.Perm.append_left _ ?_
   have:∀ (l:List α) (t:Nat) (ht:t<l.length),(l[t]::l.eraseIdx t).Perm l:=by
    intro l
    induction l with
    |nil=>intro t ht;exact absurd ht (by simp)
    |cons a l ih=>
      intro t ht
      cases t with
      |zero=>exact .refl _
      |succ t=>exact (List.Perm.swap a _ _).trans ((ih t (by simpa using ht)).cons a)
   exact this left m hm
theorem yU{α:Type}(next:Nat->Nat)(xs:Array α):(pickOrder next xs).toList.Perm xs.toList:=by
 unfold pickOrder
 exact (u9 next xs.size 0 xs.toList #[] (by simp)).trans (by simp)
section
variable{prog:Program}{w:World}{A:Around}{E:Value->Shared->Prop}{s:Shared}
theorem rB{src:Source}{n:Nat}{Q:Nat->Shared->Prop}(hn:n≠0)(h:∀i d',i<n->Q i { s with drawn:=d' }):wpAny (model prog w) A (choose src n) Q E s:=fun Γ p hΓ=>⟨hn,h _ _ (Nat.mod_lt _ (by omega))⟩
theorem qO:∀ (n:Nat) (xs:List Nat) {s:Shared}{Q:List Nat->Shared->Prop},xs.length=n->(∀ ys d',ys.Perm xs->Q ys { s with drawn:=d' })->wpAny (model prog w) A (drawOrder n xs) Q E s
 |0,xs,s,Q,h,q=>by
   have:xs=[]:=List.length_eq_zero_iff.mp h
   subst this
   unfold drawOrder
   exact wpAny_pure (q [] s.drawn (.refl _))
 |n+1,[],s,Q,h,q=>by cases h
 | n + 1,x::xs,s,Q,h,q=>by
   unfold drawOrder
   refine wpAny_bind (rB (by simp) fun i d' hi=>?_)
   rw[List.getElem?_eq_getElem hi]
   dsimp only
   refine wpAny_bind (qO n ((x::xs).eraseIdx i) (by rw[List.length_eraseIdx,if_pos hi];simp at h ⊢;omega) fun ys d2 p=>wpAny_pure (q _ d2 ?_))
   refine (p.cons _).trans ?_
   have:∀ (l:List Nat) (t:Nat) (ht:t<l.length),(l[t]::l.eraseIdx t).Perm l:=by
    intro l
    induction l with
    |nil=>intro t ht;exact absurd ht (by simp)
    |cons a l ih=>
      intro t ht
      cases t with
      |zero=>exact .refl _
      |succ t=>exact (List.Perm.swap a _ _).trans ((ih t (by simpa using ht)).cons a)
   exact this _ i hi
end
abbrev ir(vs:Array Value):Obj:={ cls:=.type "set_iterator",data:=.fields vs }
abbrev bQ(w:World):Bool:=w.params.followText "set-order"
def jY(w:World)(h:Heap)(I a tp:Addr)(es:Array (Int×Value))(ep:Nat)(t:SetTable)(ord:List Value)(i:Nat):Prop:=
 (bQ w=true∧h.get? I=some (ir #[.int 0 0,.int i 0,.ref a,.int es.size 0,.int ep 0])∧ord=(pickOrder (w.params.setOrder a ep) es).toList.map (·.2))
 ∨ (bQ w=false∧(!t.plain&&decide (es.size > 1))=false∧∃sl:Nat,h.get? I=some (ir #[.int sl 0,.int i 0,.ref a,.int es.size 0,.int ep 0])∧SetTable.below t.place sl=i∧ord=es.toList.map (·.2))
 ∨ (bQ w=false∧(!t.plain&&decide (es.size > 1))=true∧∃ps,tp≠I∧h.get? I=some (ir #[.ref tp,.int i 0,.ref a,.int es.size 0,.int ep 0])∧h.get? tp=some { cls:=.type "tuple",data:=.seq ((ps:List Nat).map fun (p:Nat)=>rawInt (p:Int)).toArray }∧ps.Perm (List.range es.size)∧ord=ps.map (fun p=>(es.getD p (0,.none)).2))
section
variable{prog:Program}{w:World}{A:Around}{E:Value->Shared->Prop}{s:Shared}{I a tp:Addr}{es:Array (Int×Value)}{ep:Nat}{t:SetTable}{ord:List Value}{i:Nat}
theorem fD{h:Heap}{vs:Array Value}{k:Nat}{v:Value}(e:h.get? I=some (ir vs)):(h.update I (Obj.mapFields (·.setIfInBounds k v))).get? I=some (ir (vs.setIfInBounds k v)):=by
 have q:=Heap.get?_update_self (Obj.mapFields (·.setIfInBounds k v)) e (Obj.isFreed_of_fields (Obj.data_mapFields rfl _))
 rw[q]
 rfl
theorem yN(hb:bQ w=true)(ho:s.heap.get? a=some (aZ es ep t))(hf:t.fits es.size=true){sl:Nat}{Q:Option (Value×Nat)->Shared->Prop}(q:Q (((pickOrder (w.params.setOrder a ep) es)[i]?).map fun e=>(e.2,sl)) s) :
  wpAny (model prog w) A (setNext a sl i ep) Q E s:=by
 unfold setNext setsByText
 refine wpAny_bind (wpAny_setState_of ho rfl hf ?_)
 refine wpAny_bind (wpAny_bind (wpAny_askSetting (wpAny_pure ?_)))
 have hb':(model prog w).w.params.followText "set-order"=true:=hb
 rw[if_pos hb']
 simp only[bne_self_eq_false,Bool.false_eq_true,↓reduceIte]
 unfold setWalk setsByText
 refine wpAny_bind (wpAny_bind (wpAny_setState_of ho rfl hf ?_))
 refine wpAny_bind (wpAny_bind (wpAny_askSetting (wpAny_pure ?_)))
 rw[if_pos hb']
 exact wpAny_bind (wpAny_askSetting (wpAny_pure (wpAny_pure q)))
theorem yO (hb:bQ w=false) (hd:(!t.plain && decide (es.size > 1))=false) (ti:TI (!bQ w) t) (ho:s.heap.get? a=some (aZ es ep t)) (hf:t.fits es.size=true) {sl:Nat}{Q:Option (Value×Nat)->Shared->Prop}
  (q:Q (match es[SetTable.below t.place sl]?,t.place[SetTable.below t.place sl]? with
    |some (_,x),some j=>some (x,j+1)
    |_,_=>none) s):wpAny (model prog w) A (setNext a sl i ep) Q E s:=by
 unfold setNext setsByText
 refine wpAny_bind (wpAny_setState_of ho rfl hf ?_)
 refine wpAny_bind (wpAny_bind (wpAny_askSetting (wpAny_pure ?_)))
 have hb':¬ (model prog w).w.params.followText "set-order"=true:=by rw[show (model prog w).w.params.followText "set-order"=bQ w from rfl,hb];decide
 rw[if_neg hb']
 have hl:t.led=true:=by rw[ti.led,hb];rfl
 show wpAny _ _ (if (!t.plain&&decide (es.size > 1))=true then _ else _) _ _ _
 rw[hd,if_neg (by decide)]
 refine wpAny_bind ?_
 show wpAny _ _ (if (!t.led&&!es.isEmpty)=true then _ else _) _ _ _
 rw[hl]
 exact wpAny_pure (wpAny_pure q)
theorem next_item (ho:s.heap.get? a=some (aZ es ep t)) (hf:t.fits es.size=true) (ti:TI (!bQ w) t) (hne:a≠I) (c:jY w s.heap I a tp es ep t ord i) (hi:i<ord.length) {Q:Option Value->Shared->Prop}
  (q:∀h',Heap.SameBut I s.heap h'->jY w h' I a tp es ep t ord (i+1)->Q (some ord[i]) { s with heap:=h' }):wpAny (model prog w) A (pyNext (.ref I)) Q E s:=by
 have ho':∀(k:Nat) (v:Value),(s.heap.update I (Obj.mapFields (·.setIfInBounds k v))).get? a=some (aZ es ep t):=fun k v=>by
  rw[Heap.get?_update_other _ _ (fun z=>hne z.symm)];exact ho
 have sz:(((es.size:Nat):Int) != ((es.size:Nat):Int))=false:=bne_self_eq_false _
 have sb2:∀(v1 v2:Value) (k1 k2:Nat),Heap.SameBut I s.heap ((s.heap.update I (Obj.mapFields (·.setIfInBounds k1 v1))).update I (Obj.mapFields (·.setIfInBounds k2 v2))):=fun v1 v2 k1 k2=>(Heap.SameBut.update _ I _).trans (Heap.SameBut.update _ I _)
 rcases c with ⟨hb,hI,e⟩ | ⟨hb,hd,sl,hI,hs,e⟩ | ⟨hb,hd,ps,htp,hI,hT,hp,e⟩
 ·have ty:s.TypeIs (.ref I) "set_iterator":=⟨_,hI,rfl⟩
  unfold pyNext
  refine wpAny_bind (wpAny_attempt (wpAny_callSpecial?_slot (name:=Str.ofString "__next__") ty bu (wpAny_call_entry bu ty eN ?_ (gb _))))
  unfold Builtin.«set_iterator.__next__» slotArgs
  refine wpAny_bind (wpAny_pure ?_)
  refine wpAny_bind (wpAny_fieldsOf hI rfl ?_)
  dsimp only
  refine wpAny_bind (wpAny_setEntries_of ho rfl hf ?_)
  rw[sz,if_neg (by decide)]
  refine wpAny_bind (yN hb ho hf ?_)
  have hi':i<(pickOrder (w.params.setOrder a ep) es).size:=by rw[e] at hi;simpa using hi
  have oi:ord[i]=((pickOrder (w.params.setOrder a ep) es)[i]).2:=by subst e;simp
  rw[show ((i:Int)).toNat=i from Int.toNat_natCast i,Array.getElem?_eq_getElem hi']
  dsimp only[Option.map_some]
  refine wpAny_bind (wpAny_setField hI rfl (by simp) ?_)
  refine wpAny_bind (wpAny_setField (fD hI) rfl (by simp) ?_)
  refine wpAny_pure ⟨_,rfl,wpAny_pure ?_⟩
  rw[←oi]
  refine q _ (sb2 _ _ _ _) (.inl ⟨hb,?_,e⟩)
  rw[fD (fD hI)]
  simp[rawInt]
 ·have ty:s.TypeIs (.ref I) "set_iterator":=⟨_,hI,rfl⟩
  unfold pyNext
  refine wpAny_bind (wpAny_attempt (wpAny_callSpecial?_slot (name:=Str.ofString "__next__") ty bu (wpAny_call_entry bu ty eN ?_ (gb _))))
  unfold Builtin.«set_iterator.__next__» slotArgs
  refine wpAny_bind (wpAny_pure ?_)
  refine wpAny_bind (wpAny_fieldsOf hI rfl ?_)
  dsimp only
  refine wpAny_bind (wpAny_setEntries_of ho rfl hf ?_)
  rw[sz,if_neg (by decide)]
  refine wpAny_bind (yO hb hd ti ho hf ?_)
  have hi':i<es.size:=by rw[e] at hi;simpa using hi
  have hps:t.place.size=es.size:=by
   simp only[SetTable.fits,Bool.and_eq_true,beq_iff_eq] at hf
   exact hf.1
  have hi2:i<t.place.size:=by rw[hps];exact hi'
  have oi:ord[i]=(es[i]).2:=by subst e;simp
  rw[show ((sl:Int)).toNat=sl from Int.toNat_natCast sl,hs,Array.getElem?_eq_getElem hi',Array.getElem?_eq_getElem hi2]
  dsimp only
  refine wpAny_bind (wpAny_setField hI rfl (by simp) ?_)
  refine wpAny_bind (wpAny_setField (fD hI) rfl (by simp) ?_)
  refine wpAny_pure ⟨_,rfl,wpAny_pure ?_⟩
  rw[←oi]
  refine q _ (sb2 _ _ _ _) (.inr (.inl ⟨hb,hd,t.place[i]+1,?_,vL ti.ris hi2,e⟩))
  rw[fD (fD hI)]
  simp[rawInt]
 ·have ty:s.TypeIs (.ref I) "set_iterator":=⟨_,hI,rfl⟩
  have hpl:ps.length=es.size:=by rw[hp.length_eq,List.length_range]
  have hi':i<ps.length:=by rw[e] at hi;simpa using hi
  have hpi:ps[i]<es.size:=List.mem_range.mp (hp.mem_iff.mp (List.getElem_mem hi'))
  unfold pyNext
  refine wpAny_bind (wpAny_attempt (wpAny_callSpecial?_slot (name:=Str.ofString "__next__") ty bu (wpAny_call_entry bu ty eN ?_ (gb _))))
  unfold Builtin.«set_iterator.__next__» slotArgs
  refine wpAny_bind (wpAny_pure ?_)
  refine wpAny_bind (wpAny_fieldsOf hI rfl ?_)
  dsimp only
  refine wpAny_bind (wpAny_setEntries_of ho rfl hf ?_)
  rw[sz,if_neg (by decide)]
  refine wpAny_bind (wpAny_seqItems hT rfl ?_)
  have g:((ps.map fun (p:Nat)=>rawInt (p:Int)).toArray)[i]?=some (rawInt (ps[i]:Int)):=by simp[hi']
  rw[show ((i:Int)).toNat=i from Int.toNat_natCast i]
  dsimp only
  rw[g]
  dsimp only[rawInt]
  unfold setNextDrawn
  refine wpAny_bind (wpAny_bind (wpAny_setState_of ho rfl hf ?_))
  simp only[bne_self_eq_false,Bool.false_eq_true,↓reduceIte,Int.toNat_natCast]
  rw[Array.getElem?_eq_getElem hpi]
  dsimp only
  refine wpAny_pure ?_
  refine wpAny_bind (wpAny_setField hI rfl (by simp) ?_)
  refine wpAny_pure ⟨_,rfl,wpAny_pure ?_⟩
  have oi:ord[i]=(es[ps[i]]).2:=by subst e;simp[hpi]
  rw[←oi]
  refine q _ (Heap.SameBut.update _ I _) (.inr (.inr ⟨hb,hd,ps,htp,?_,?_,hp,e⟩))
  ·rw[fD hI]
   simp
  ·rw[Heap.get?_update_other _ _ (fun z=>htp z.symm)];exact hT
end
section
variable{prog:Program}{w:World}{A:Around}{E:Value->Shared->Prop}{s:Shared}{I a tp:Addr}{es:Array (Int×Value)}{ep:Nat}{t:SetTable}{ord:List Value}{i:Nat}
theorem nY(hh:A.handled=none){R:Fin->Shared->Prop}{Q:Option Value->Shared->Prop}(q:∀h',(∀b o,s.heap.get? b=some o->h'.get? b=some o)->Q none { s with heap:=h' }) :
  wpAny (model prog w) A.in1 (do raiseNew (←newExc (.type "StopIteration") [])) R (fun e s'=>wpAny (model prog w) A (do if ←isInstance e (.type "StopIteration") then pure none else throw e) Q E s') s:=by
 refine wpAny_bind ?_
 simp only[newExc,newTuple]
 refine wpAny_bind (wpAny_newObj_type ?_ (by size_fits))
 refine wpAny_bind (m:=firstArgMember _ _) (wpAny_of_eq (a:=.none) (by first | rfl | (simp only[firstArgMember];rfl)) (wpAny_newObj_type ?_ (by size_fits)))
 simp only[raiseNew]
 refine wpAny_bind (wpAny_handled ?_)
 have h1:A.in1.handled=none:=hh
 rw[h1]
 refine wpAny_bind (wpAny_pure (wpAny_throw ?_))
 refine wpAny_bind (wpAny_isInstance (T := "StopIteration") (b:=true) ⟨_,Heap.get?_push_size _ rfl,rfl⟩ isSubtype_stop ?_)
 exact wpAny_pure (q _ fun b o e=>Heap.get?_push_of_some _ (Heap.get?_push_of_some _ e))
theorem next_end(hh:A.handled=none)(ho:s.heap.get? a=some (aZ es ep t))(hf:t.fits es.size=true)(ti:TI (!bQ w) t)(c:jY w s.heap I a tp es ep t ord ord.length){Q:Option Value->Shared->Prop}
  (q:∀h',(∀b o,b≠I->s.heap.get? b=some o->h'.get? b=some o)->Q none { s with heap:=h' }):wpAny (model prog w) A (pyNext (.ref I)) Q E s:=by
 have sz:(((es.size:Nat):Int) != ((es.size:Nat):Int))=false:=bne_self_eq_false _
 have k1:∀(v1:Value) (k1:Nat) b o,b≠I->s.heap.get? b=some o->(s.heap.update I (Obj.mapFields (·.setIfInBounds k1 v1))).get? b=some o:=fun v1 k1 b o hb e=>by
  rw[Heap.get?_update_other _ _ (fun z=>hb z.symm)];exact e
 rcases c with ⟨hb,hI,e⟩ | ⟨hb,hd,sl,hI,hs,e⟩ | ⟨hb,hd,ps,htp,hI,hT,hp,e⟩
 ·have ty:s.TypeIs (.ref I) "set_iterator":=⟨_,hI,rfl⟩
  unfold pyNext
  refine wpAny_bind (wpAny_attempt (wpAny_callSpecial?_slot (name:=Str.ofString "__next__") ty bu (wpAny_call_entry bu ty eN ?_ (gb _))))
  unfold Builtin.«set_iterator.__next__» slotArgs
  refine wpAny_bind (wpAny_pure (wpAny_bind (wpAny_fieldsOf hI rfl ?_)))
  dsimp only
  refine wpAny_bind (wpAny_setEntries_of ho rfl hf ?_)
  rw[sz,if_neg (by decide)]
  refine wpAny_bind (yN hb ho hf ?_)
  have hi':(pickOrder (w.params.setOrder a ep) es)[((ord.length:Int)).toNat]?=none:=by rw[Int.toNat_natCast,Array.getElem?_eq_none_iff,e];simp
  rw[hi']
  dsimp only[Option.map_none]
  refine wpAny_bind (wpAny_setField hI rfl (by simp) ?_)
  exact nY hh fun h' k=>q h' fun b o hb e=>k b o (k1 _ _ b o hb e)
 ·have ty:s.TypeIs (.ref I) "set_iterator":=⟨_,hI,rfl⟩
  unfold pyNext
  refine wpAny_bind (wpAny_attempt (wpAny_callSpecial?_slot (name:=Str.ofString "__next__") ty bu (wpAny_call_entry bu ty eN ?_ (gb _))))
  unfold Builtin.«set_iterator.__next__» slotArgs
  refine wpAny_bind (wpAny_pure (wpAny_bind (wpAny_fieldsOf hI rfl ?_)))
  dsimp only
  refine wpAny_bind (wpAny_setEntries_of ho rfl hf ?_)
  rw[sz,if_neg (by decide)]
  refine wpAny_bind (yO hb hd ti ho hf ?_)
  have hi':es[ord.length]?=none:=by rw[Array.getElem?_eq_none_iff,e];simp
  rw[show ((sl:Int)).toNat=sl from Int.toNat_natCast sl,hs,hi']
  dsimp only
  refine wpAny_bind (wpAny_setField hI rfl (by simp) ?_)
  exact nY hh fun h' k=>q h' fun b o hb e=>k b o (k1 _ _ b o hb e)
 ·have ty:s.TypeIs (.ref I) "set_iterator":=⟨_,hI,rfl⟩
  unfold pyNext
  refine wpAny_bind (wpAny_attempt (wpAny_callSpecial?_slot (name:=Str.ofString "__next__") ty bu (wpAny_call_entry bu ty eN ?_ (gb _))))
  unfold Builtin.«set_iterator.__next__» slotArgs
  refine wpAny_bind (wpAny_pure (wpAny_bind (wpAny_fieldsOf hI rfl ?_)))
  dsimp only
  refine wpAny_bind (wpAny_setEntries_of ho rfl hf ?_)
  rw[sz,if_neg (by decide)]
  refine wpAny_bind (wpAny_seqItems hT rfl ?_)
  have g:((ps.map fun (p:Nat)=>rawInt (p:Int)).toArray)[((ord.length:Int)).toNat]?=none:=by rw[Int.toNat_natCast,Array.getElem?_eq_none_iff,e];simp
  dsimp only
  rw[g]
  dsimp only
  refine wpAny_bind (wpAny_setField hI rfl (by simp) ?_)
  refine wpAny_bind (wpAny_setField (fD hI) rfl (by simp) ?_)
  refine nY hh fun h' k=>q h' fun b o hb e=>k b o ?_
  rw[Heap.get?_update_other _ _ (fun z=>hb z.symm)]
  exact k1 _ _ b o hb e
theorem Aj (ho:s.heap.get? a=some (aZ es ep t)) (hf:t.fits es.size=true) (ti:TI (!bQ w) t) (hb:es.size<scanBound) {Q:Value->Shared->Prop}
  (q:∀h' d' I tp ord,s.heap.objs.size≤I->(∀b o,s.heap.get? b=some o->h'.get? b=some o)->I<h'.objs.size->(tp=a∨(s.heap.objs.size≤tp∧tp<h'.objs.size))->jY w h' I a tp es ep t ord 0->ord.Perm (es.toList.map (·.2))->Q (.ref I) { s with heap:=h',drawn:=d' }):wpAny (model prog w) A (pyIter (.ref a)) Q E s:=by
 have ty:s.TypeIs (.ref a) "set":=⟨_,ho,rfl⟩
 refine wpAny_pyIter_slot ty F.slot_set_iter (wpAny_call_entry F.slot_set_iter ty rm ?_ (F.args_set_iter_1 _))
 unfold Builtin.«frozenset.__iter__» Builtin.Frozenset.slot0 slotArgs Builtin.Frozenset.addrOf Builtin.Frozenset.sizeOf setDrawn setsByText
 simp only[List.isEmpty_nil,Bool.not_true,Bool.false_eq_true,↓reduceIte,bind_assoc,List.length_nil,bne_self_eq_false]
 refine wpAny_bind (wpAny_pure (wpAny_bind (wpAny_pure ?_)))
 refine wpAny_bind (wpAny_setEntries_of ho rfl hf (wpAny_bind (wpAny_pure ?_)))
 refine wpAny_bind (wpAny_setState_of ho rfl hf ?_)
 refine wpAny_bind (wpAny_askSetting (wpAny_bind (wpAny_pure (wpAny_bind (wpAny_pure ?_)))))
 show wpAny _ _ (if (!bQ w&&(!t.plain&&decide (es.size > 1)))=true then _ else _) _ _ _
 by_cases hc:(!bQ w&&(!t.plain&&decide (es.size > 1)))=true
 ·rw[if_pos hc]
  rw[Bool.and_eq_true] at hc
  have hB:bQ w=false:=by simpa using hc.1
  refine wpAny_bind (qO es.size (List.range es.size) (by simp) fun ps d' hp=>?_)
  have pl:ps.length=es.size:=by rw[hp.length_eq,List.length_range]
  simp only[newTuple,newFields]
  refine wpAny_bind (wpAny_newObj_type ?_ (by show _≤sizeLine;have:=fits_of_scanBound hb;simp;omega))
  have ho1:=Heap.get?_push_of_some { cls:=.type "tuple",data:=.seq ((ps.map fun (i:Nat)=>rawInt (i:Int)).toArray) } ho
  refine wpAny_bind (wpAny_setEpoch_of ho1 rfl hf ?_)
  refine wpAny_bind (wpAny_newObj_type (wpAny_pure ⟨_,rfl, "set_iterator",_,⟨_,Heap.get?_push_size _ rfl,rfl⟩,bu.lookup,?_⟩) (by show _≤_;simp[sizeLine_eq]))
  refine q _ d' _ s.heap.objs.size (ps.map (fun p=>(es.getD p (0,.none)).2)) (by dsimp only;simp only[Heap.size_push];omega) (fun b o e=>Heap.get?_push_of_some _ (Heap.get?_push_of_some _ e)) (by dsimp only;simp only[Heap.size_push];omega) (.inr ⟨Nat.le_refl _,by dsimp only;simp only[Heap.size_push];exact Nat.lt_succ_of_lt (Nat.lt_succ_self _)⟩) (.inr (.inr ⟨hB,hc.2,ps,?_,Heap.get?_push_size _ rfl,Heap.get?_push_of_some _ (Heap.get?_push_size _ rfl),hp,rfl⟩)) ?_
  ·dsimp only;simp only[Heap.size_push];exact Nat.ne_of_lt (Nat.lt_succ_self _)
  ·refine (hp.map _).trans (List.Perm.of_eq ?_)
   apply List.ext_getElem?
   intro k
   by_cases hk:k<es.size
   ·simp[hk,Array.getD]
   ·rw[List.getElem?_eq_none (by simp;omega),List.getElem?_eq_none (by simp;omega)]
 ·rw [if_neg hc]
  refine wpAny_bind (wpAny_pure ?_)
  simp only[newFields]
  refine wpAny_bind (wpAny_setEpoch_of ho rfl hf ?_)
  refine wpAny_bind (wpAny_newObj_type (wpAny_pure ⟨_,rfl, "set_iterator",_,⟨_,Heap.get?_push_size _ rfl,rfl⟩,bu.lookup,?_⟩) (by show _≤_;simp[sizeLine_eq]))
  have fin:∀ord,jY w (s.heap.push (ir #[.int 0 0,.int 0 0,.ref a,.int es.size 0,.int ep 0])) s.heap.objs.size a a es ep t ord 0->ord.Perm (es.toList.map (·.2))->Q (.ref s.heap.objs.size) { s with heap:=s.heap.push (ir #[.int 0 0,.int 0 0,.ref a,.int es.size 0,.int ep 0]) }:=fun ord c p=>
   q _ s.drawn s.heap.objs.size a ord (Nat.le_refl _) (fun b o e=>Heap.get?_push_of_some _ e) (by rw[Heap.size_push];omega) (.inl rfl) c p
  cases hB:bQ w with
  |true=>exact fin _ (.inl ⟨hB,Heap.get?_push_size _ rfl,rfl⟩) ((yU _ es).map _)
  |false=>
    rw[hB] at hc
    have hd:(!t.plain&&decide (es.size > 1))=false:=by simpa using hc
    exact fin _ (.inr (.inl ⟨hB,hd,0,Heap.get?_push_size _ rfl,vM ti.ris,rfl⟩)) (.refl _)
theorem jY.at{h h':Heap}(c:jY w h I a tp es ep t ord i)(k1:∀o,h.get? I=some o->h'.get? I=some o)(k2:∀o,h.get? tp=some o->h'.get? tp=some o):jY w h' I a tp es ep t ord i:=by
 rcases c with ⟨hb,hI,e⟩ | ⟨hb,hd,sl,hI,hs,e⟩ | ⟨hb,hd,ps,htp,hI,hT,hp,e⟩
 ·exact .inl ⟨hb,k1 _ hI,e⟩
 ·exact .inr (.inl ⟨hb,hd,sl,k1 _ hI,hs,e⟩)
 ·exact .inr (.inr ⟨hb,hd,ps,htp,k1 _ hI,k2 _ hT,hp,e⟩)
theorem jY.ty{h:Heap}(c:jY w h I a tp es ep t ord i):∃vs,h.get? I=some (ir vs):=by
 rcases c with ⟨hb,hI,e⟩ | ⟨hb,hd,sl,hI,hs,e⟩ | ⟨hb,hd,ps,htp,hI,hT,hp,e⟩<;>exact⟨_,hI⟩
theorem zF(hh:A.handled=none)(hf:t.fits es.size=true)(ti:TI (!bQ w) t)(hne:a≠I) :
  Walks prog w A I [I,a,tp] [I] ord.length (fun i v=>ord[i]?=some v) (fun i h=>h.get? a=some (aZ es ep t)∧jY w h I a tp es ep t ord i) where
 sub:=fun b hb=>by simp at hb;simp[hb]
 frame:=fun _ _ _ st hk=>⟨hk a (by simp) _ st.1,st.2.at (fun o e=>hk I (by simp) o e) fun o e=>hk tp (by simp) o e⟩
 item:=fun i s Q E hi st hQ=>next_item st.1 hf ti hne st.2 hi fun h' sb c=>hQ _ h' s.toks (by simp[hi]) ⟨sb.extBut a _ hne st.1,c⟩ fun b o hb e=>sb.extBut b o (fun h=>hb (by simp[h])) e
 done:=fun s Q E st hQ=>next_end hh st.1 hf ti st.2 fun h' k=>hQ h' s.toks fun b o hb e=>k b o (fun h=>hb (by simp[h])) e
 self:=fun i s Q E st hQ=>by
  obtain⟨vs,hI⟩:=st.2.ty
  have ty:s.TypeIs (.ref I) "set_iterator":=⟨_,hI,rfl⟩
  exact wpAny_pyIter_slot ty vy (wpAny_call_entry vy ty Ae (wpAny_pure ⟨_,rfl, "set_iterator",_,ty,bu.lookup,hQ⟩) (Cq _))
end
theorem SetG.at{prog:Program}{w:World}{L:Bool}{h h':Heap}{a:Addr}{ks:List Int}(g:SetG prog w L h a ks)(k:∀o,h.get? a=some o->h'.get? a=some o):SetG prog w L h' a ks:=by
 obtain⟨es,ep,t,ho,r⟩:=g.ex
 exact⟨es,ep,t,k _ ho,r⟩
theorem nW (ks:List Int) (k:Int):(if k∈ks then ks else ks++[k])=step_dedup ks k:=by
 unfold step_dedup
 by_cases h:k∈ks
 ·rw[if_pos h,if_pos (List.any_eq_true.mpr ⟨k,h,by simp⟩)]
 ·rw[if_neg h,if_neg (fun z=>by
   obtain⟨x,hx,e⟩:=List.any_eq_true.mp z
   exact h (by rw[←beq_iff_eq.mp e];exact hx))]
section
variable{prog:Program}{w:World}{A:Around}{R:Result->Shared->Prop}{I:Addr}{fp wr:List Addr}{G:Array GenState->Array GenState->Prop}{n:Nat}{P:Nat->Value->Prop}{St:Nat->Shared->Prop}{L:Bool}
theorem o9 (W:WalksS prog w A.in1 I fp wr G n P St) (S:Addr) (hSf:S∉fp) (val:Nat->Int) (hval:∀ i v,P i v->∃ t,v=.int (val i) t) (hb:n + 1<scanBound):∀ (k i:Nat) (s:Shared),n - i=k->i≤n->St i s->SetG prog w L s.heap S (firstMet val i)->
  (∀s',Moved (S::wr) G s s'->SetG prog w L s'.heap S (firstMet val n)->R (.ok (.ret .none)) s')->codeAny (model prog w) A (.builtin "set.update.loop" ⟨[.ref S,.ref I],[]⟩) R s:=by
 have nw:S∉wr:=fun h=>hSf (W.sub _ h)
 have sub:∀b∈wr,b∈S::wr:=fun b hb=>.tail _ hb
 intro k
 induction k with
 |zero=>
   intro i s hk hi hst g hR
   obtain rfl:i=n:=by omega
   refine codeAny_builtin PyProof.Rows.F.entry_set_update_loop ?_
   rw[Around.under_plainId PyProof.Rows.F.plain_set_update_loop _]
   refine wpAny_bind (m:=pyNext (.ref I)) (W.done s _ _ hst fun s' hm=>?_)
   exact wpAny_pure (hR s' (hm.mono sub) (g.at fun o e=>hm.heap S _ nw e))
 | succ k ih=>
   intro i s hk hi hst g hR
   have lt:i<n:=by omega
   refine codeAny_builtin PyProof.Rows.F.entry_set_update_loop ?_
   rw[Around.under_plainId PyProof.Rows.F.plain_set_update_loop _]
   refine wpAny_bind (m:=pyNext (.ref I)) (W.item i s _ _ lt hst fun v s' hP hst' hm=>?_)
   obtain⟨t,rfl⟩:=hval i v hP
   have g':=g.at (h':=s'.heap) fun o e=>hm.heap S _ nw e
   refine wpAny_bind (m:=holding [Value.int (val i) t] (setAdd S (.int (val i) t))) (wpAny_holding ?_)
   unfold setAdd
   refine wpAny_holding (wpAny_bind ((intKind prog w).pyHash (k:=val i) (intKind_is _ _ _ _) ?_))
   have room:(firstMet val i).length+1<scanBound:=by have:=firstMet_length_le val i;omega
   refine add_int (s:={ s' with toks:=s'.toks+1 }) g' room fun h' b sb g2=>?_
   rw[nW,←firstMet_succ] at g2
   refine wpAny_pure ⟨plainId_quiet PyProof.Rows.F.plain_set_update_loop _,ih (i+1) _ (by omega) lt (W.frame _ s' _ _ hst' (Nat.le_succ _) fun c hc o e=>?_) g2 fun s2 hm2 g3=>?_⟩
   ·rw[sb.2 c (fun z=>hSf (z ▸ hc))];exact e
   ·refine hR s2 (Moved.trans W.gtrans ((hm.mono sub).then_heap (Nat.le_succ _) fun c o hc e=>?_) hm2) g3
    rw[sb.2 c (fun z=>hc (z ▸ List.mem_cons_self))];exact e
end
section
variable{prog:Program}{w:World}{A:Around}{E:Value->Shared->Prop}{s:Shared}
theorem Dg(v:Value){Q:Value->Shared->Prop}(h:Q (.ref s.heap.objs.size) { s with heap:=s.heap.push (aZ #[] 0 (.fresh 0 0 (!bQ w))) }) :
  codeAny (model prog w) A (.call (.builtin "set.__new__") ⟨[.type "set",v],[]⟩) (wants Q E) s:=by
 refine codeAny_of_tree (wpAny_bind (m:=checkBuiltinCall "set.__new__" ⟨[.type "set",v],[]⟩) (wpAny_of_eq (F.newCall_set_1 v) (wpAny_pure ⟨plainId_quiet F.plain_set_new _,codeAny_builtin F.entry_set_new ?_⟩)))
 rw[Around.under_plainId F.plain_set_new _]
 unfold Builtin.«set.__new__» Builtin.Frozenset.newClass
 have hsub:=sub_set_self
 obtain⟨hp,g,d,tk,os⟩:=s
 dsimp only
 wp_walk
 refine wpAny_askSetting (wpAny_pure ?_)
 dsimp only
 simp only[newObj]
 exact wpAny_bind (wpAny_alloc (wpAny_pure (wpAny_pure h)))
theorem xO {l:Addr}{items:Array Value}{ns:List Int}{Q:Value->Shared->Prop} (hh:A.handled=none) (hl:s.heap.IsList l items) (hi:IntsAre items.toList ns) (hb:items.size + 1<scanBound)
  (h:∀(h':Heap) (tk:Nat),SetG prog w (!bQ w) h' s.heap.objs.size (firstMet (fun i=>ns.getD i 0) items.size)->(∀b o,b<s.heap.objs.size->s.heap.get? b=some o->h'.get? b=some o)->Q (.ref s.heap.objs.size) { s with heap:=h',toks:=tk }) :
  wpAny (model prog w) A (call (.type "set") [.ref l]) Q E s:=by
 obtain⟨c,tl,hmro⟩:=F.called_set.mro
 have hmade:=F.called_set.made
 have hsub:=F.called_set.sub
 refine wpAny_call (codeAny_of_tree (wpAny_pure ⟨Code.quiet_builtin _ (by decide +kernel),codeAny_builtin F.entry_type_call ?_⟩))
 rw[Around.under_plain (weight_type_call_type "set" [.ref l] []) rfl]
 have h1:=F.called_set.notType
 have h2:=F.called_set.canCreate
 have hct:=F.typeCall_set_1 (.ref l)
 repeat (any_goals (first | assumption | wp_step))
 refine codeAny_mono (Dg (.ref l) (E:=E) (Q:=fun obj s1=>obj=.ref s.heap.objs.size∧s1={ s with heap:=s.heap.push (aZ #[] 0 (.fresh 0 0 (!bQ w))) }) ⟨rfl,rfl⟩) fun r s1 hr=>?_
 cases r with
 |error e=>exact hr
 | ok fl=>
   cases fl with
   | ret obj=>
     obtain⟨rfl,rfl⟩:=hr
     have hS:(s.heap.push (aZ #[] 0 (.fresh 0 0 (!bQ w)))).get? s.heap.objs.size=some (aZ #[] 0 (.fresh 0 0 (!bQ w))):=Heap.get?_push_size _ rfl
     have hT:Shared.TypeIs { s with heap:=s.heap.push (aZ #[] 0 (.fresh 0 0 (!bQ w))) } (.ref s.heap.objs.size) "set":=⟨_,hS,rfl⟩
     have hli:=F.called_set.init.lookup
     have hbi:=F.called_set.init.bind (.ref s.heap.objs.size)
     repeat (any_goals (first | assumption | wp_step))
     refine codeAny_mono (codeAny_call_builtin (R:=wants (fun r s2=>r=.none∧∃h' tk,s2={ s with heap:=h',toks:=tk }∧SetG prog w (!bQ w) h' s.heap.objs.size (firstMet (fun i=>ns.getD i 0) items.size) ∧
       (∀b o,b<s.heap.objs.size->s.heap.get? b=some o->h'.get? b=some o)) E) F.called_set.init.plain F.entry_set_init (check_set_init_1 hT ?_)) fun r2 s2 hr2=>?_
     ·obtain ⟨ol,hol,hcl,nl,hdl⟩:=hl
      obtain⟨ocls,odict,odata,oslots⟩:=ol
      simp only at hcl hdl
      subst hcl;subst hdl
      have hol':(s.heap.push (aZ #[] 0 (.fresh 0 0 (!bQ w)))).get? l=some { cls:=.type "list",dict:=odict,data:=.seq items nl,slots:=oslots }:=Heap.get?_push_of_some _ hol
      have hsls:=F.sub_list_set
      have hslf:=F.sub_list_frozenset
      have hne:(Value.type "list"==Value.type "dict")=false:=by decide
      have hl1:(s.heap.push (aZ #[] 0 (.fresh 0 0 (!bQ w)))).IsList l items:=⟨_,hol',rfl,nl,rfl⟩
      unfold Builtin.«set.__init__» noKeywords Builtin.Frozenset.updateFrom
      generalize hPI:pyIter=PI
      wp_walk
      subst hPI
      refine wpAny_pyIter_list hl1 (wpAny_bind (wpAny_runValue ?_))
      have hlS:l<s.heap.objs.size:=Heap.lt_size hol
      have hh3:A.in1.in1.in1.handled=none:=by simp[hh]
      have hneI:l≠(s.heap.push (aZ #[] 0 (.fresh 0 0 (!bQ w)))).objs.size:=by
       rw[Heap.size_push];exact Nat.ne_of_lt (Nat.lt_succ_of_lt hlS)
      have hSf:s.heap.objs.size∉[(s.heap.push (aZ #[] 0 (.fresh 0 0 (!bQ w)))).objs.size,l]:=by
       rw[Heap.size_push];simp only[List.mem_cons,List.mem_singleton,List.not_mem_nil,or_false,not_or]
       exact⟨Nat.ne_of_lt (Nat.lt_succ_self _),Nat.ne_of_gt hlS⟩
      have hval:∀(i:Nat) (v:Value),items[i]?=some v->∃t,v=.int ((fun i=>ns.getD i 0) i) t:=fun i v hv=>IntsAre.int_at hi i v (by rw[Array.getElem?_toList];exact hv)
      refine o9 (L:=!bQ w) ((Walks.list hh3 _ l hneI items).toS) s.heap.objs.size hSf (fun i=>ns.getD i 0) hval hb (items.size-0) 0 _ (by omega) (Nat.zero_le _) ⟨⟨_,Heap.get?_push_size _ rfl,rfl,rfl⟩,(hl1.push _)⟩ ?hS0 ?hR
      case hS0=>exact⟨#[],0,_,Heap.get?_push_of_some _ hS,(fun e he=>by simp at he),.refl _,rfl,TI.fresh 0 0,by decide⟩
      case hR=>
       intro s' hm hS'
       obtain⟨h',g',d',tk',os'⟩:=s'
       have eg:g'=s.gens:=hm.gens
       have ed:d'=s.drawn:=hm.drawn
       have eo:os'=s.os:=hm.os
       subst eg;subst ed;subst eo
       refine wpAny_pure (wpAny_pure ⟨rfl,h',tk',rfl,hS',fun b o hb e=>?_⟩)
       have hb2:b≠(s.heap.push (aZ #[] 0 (.fresh 0 0 (!bQ w)))).objs.size:=by
        rw[Heap.size_push];exact Nat.ne_of_lt (Nat.lt_succ_of_lt hb)
       exact hm.heap b o (by simp only[List.mem_cons,List.mem_singleton,List.not_mem_nil,or_false,not_or];exact⟨Nat.ne_of_lt hb,hb2⟩) (Heap.get?_push_of_some _ (Heap.get?_push_of_some _ e))
     ·cases r2 with
      |error e=>exact hr2
      | ok fl2=>
        cases fl2 with
        |ret r=>
          obtain⟨rfl,h',tk,rfl,hS',hk'⟩:=hr2
          repeat (any_goals (first | assumption | wp_step))
          exact h _ _ hS' hk'
        |_=>exact hr2.elim
   |_=>exact hr.elim
end
theorem ints_of {prog:Program}{w:World}:∀ {l:List (Int×Value)},ElemsOf (intKind prog w) l->IntsAre (l.map (·.2)) (fY l)
 |[],_=>.nil
 |e::l,h=>by
   obtain⟨t,q⟩:=sX h (List.mem_cons_self (a:=e) (l:=l))
   show IntsAre (e.2::l.map (·.2)) (vInt e.2::fY l)
   have ih:=ints_of (prog:=prog) (w:=w) (l:=l) fun x hx=>h x (.tail _ hx)
   rw[q]
   exact .cons _ _ ih
theorem yq {vs vs':List Value}{ns:List Int} (h:IntsAre vs ns) (p:vs'.Perm vs):∃ ns',IntsAre vs' ns'∧ns'.Perm ns:=by
 have key:∀ {vs:List Value}{ns:List Int},IntsAre vs ns->ns=vs.map vInt∧∀ v∈vs,∃ t,v=.int (vInt v) t:=fun {vs ns} h=>by
  induction h with
  |nil=>exact⟨rfl,fun v hv=>by cases hv⟩
  |cons n t hr ih=>
    refine⟨by rw[List.map_cons,←ih.1];rfl,fun v hv=>?_⟩
    rcases List.mem_cons.mp hv with rfl | hv
    ·exact⟨t,rfl⟩
    ·exact ih.2 v hv
 obtain⟨e,k⟩:=key h
 have back:∀ (l:List Value),(∀ v∈l,∃ t,v=.int (vInt v) t)->IntsAre l (l.map vInt):=by
  intro l
  induction l with
  |nil=>intro _;exact .nil
  |cons v l ih=>
    intro hl
    obtain⟨t,q⟩:=hl v (List.mem_cons_self)
    have r:=ih fun x hx=>hl x (.tail _ hx)
    rw[List.map_cons]
    generalize vInt v=i at q ⊢
    subst q
    exact .cons _ _ r
 refine⟨vs'.map vInt,back vs' fun v hv=>k v (p.mem_iff.mp hv),?_⟩
 rw[e]
 exact p.map _
theorem BK{a b:Nat}(h:b+1≤a):a≠b:=by omega
section
variable{prog:Program}{w:World}{A:Around}{E:Value->Shared->Prop}{s:Shared}
theorem Ag{a:Addr}{es:Array (Int×Value)}{ep:Nat}{t:SetTable}(ho:s.heap.get? a=some (aZ es ep t)){Q:Bool->Shared->Prop}(q:Q false s):wpAny (model prog w) A (Builtin.List.listLengthHint (.ref a)) Q E s:=by
 have ty:s.TypeIs (.ref a) "set":=⟨_,ho,rfl⟩
 unfold Builtin.List.listLengthHint
 refine wpAny_bind (wpAny_specialOf ty F.slot_set_len.lookup ?_)
 have sp:splitId "set.__len__"=some ("set", "__len__"):=by decide +kernel
 dsimp only
 rw[sp]
 dsimp only
 refine wpAny_bind (wpAny_isInstance (b:=true) ty sub_set_self ?_)
 refine wpAny_bind (wpAny_typeOf ty ?_)
 exact wpAny_pure q
theorem uB (hh:A.handled=none) {a:Addr}{ks:List Int} (g:SetG prog w (!bQ w) s.heap a ks) {Q:List Value->Shared->Prop} (h:∀ h' tk d' vs ns,IntsAre vs ns->ns.Perm ks->s.heap.objs.size≤h'.objs.size->(∀ b o,s.heap.get? b=some o->h'.get? b=some o)->Q vs { s with heap:=h',toks:=tk,drawn:=d' }):wpAny (model prog w) A (collect (.ref a)) Q E s:=by
 obtain⟨es,ep,t,ho,hel,hp,hf,ti,hb⟩:=g.ex
 have ia:=ints_of hel
 unfold collect
 refine wpAny_bind (wpAny_runValue (codeAny_builtin F.entry_proto_collect ?_))
 rw[Around.under_plainId F.plain_proto_collect _]
 refine wpAny_bind (m:=newList []) (wpAny_newObj_type (wpAny_pure ⟨plainId_quiet F.plain_list_iadd _,codeAny_builtin F.entry_list_iadd ?_⟩))
 rw[Around.under_plainId F.plain_list_iadd _]
 have ha:a<s.heap.objs.size:=Heap.lt_size ho
 have ne:s.heap.objs.size≠a:=fun z=>by rw[z] at ha;exact Nat.lt_irrefl _ ha
 have sr:Builtin.List.listSameRef (.ref s.heap.objs.size) (.ref a)=false:=by simp[Builtin.List.listSameRef,ne]
 have lst0:(s.heap.push (seqObj "list" #[] 0)).get? s.heap.objs.size=some (seqObj "list" #[] 0):=Heap.get?_push_size _ rfl
 have ho1:(s.heap.push (seqObj "list" #[] 0)).get? a=some (aZ es ep t):=Heap.get?_push_of_some _ ho
 show wpAny _ A.in1 (Builtin.List.listExtendWith (.ref s.heap.objs.size) (.ref a) (.ref s.heap.objs.size)) _ _ { s with heap:=s.heap.push (seqObj "list" #[] 0) }
 unfold Builtin.List.listExtendWith
 refine wpAny_bind (wpAny_typeOf (T := "set") ⟨_,ho1,rfl⟩ ?_)
 rw[if_neg (by rw[sr];decide)]
 refine wpAny_bind (Aj (s:={ s with heap:=s.heap.push (seqObj "list" #[] 0) }) ho1 hf ti hb fun h1 d1 I tp ord hI k1 hI1 htp c po=>?_)
 have ho2:=k1 a _ ho1
 have lst1:=k1 _ _ lst0
 have szI:s.heap.objs.size+1≤I:=by have:(s.heap.push (seqObj "list" #[] 0)).objs.size≤I:=hI;rw[Heap.size_push] at this;exact this
 refine wpAny_bind (wpAny_holding (Ag ho2 ?_))
 dsimp only
 refine wpAny_bind (m:=rule _) (wpAny_rule ?_)
 unfold Builtin.List.listTouch
 refine wpAny_bind (wpAny_bind (listUpdate_at lst1 rfl ?_ (by simp) (by simp)))
 have lst2:=get?_update_seq lst1 (fun x:Array Value=>x.push .none)
 refine listUpdate_at lst2 rfl ?_ (by simp[sizeLine_eq]) (by simp)
 have lst3:=get?_update_seq lst2 (fun x:Array Value=>x.pop)
 have up:∀b o,b≠s.heap.objs.size->h1.get? b=some o->((h1.update s.heap.objs.size (Obj.mapSeq fun x=>x.push .none)).update s.heap.objs.size (Obj.mapSeq fun x=>x.pop)).get? b=some o:=fun b o hb e=>by
  rw[Heap.get?_update_ne _ _ _ _ hb,Heap.get?_update_ne _ _ _ _ hb];exact e
 have neI:I≠s.heap.objs.size:=BK szI
 have netp:tp≠s.heap.objs.size:=by
  rcases htp with z | ⟨z,_⟩
  ·rw[z];exact fun q=>ne q.symm
  ·have:s.heap.objs.size+1≤tp:=by have:(s.heap.push (seqObj "list" #[] 0)).objs.size≤tp:=z;rw[Heap.size_push] at this;exact this
   exact BK this
 have hne:a≠I:=Nat.ne_of_lt (Nat.lt_trans ha szI)
 have hh1:A.in1.in1.handled=none:=by simp[hh]
 have W:=(zF (prog:=prog) (w:=w) (A:=A.in1) (I:=I) (a:=a) (tp:=tp) (es:=es) (ep:=ep) (t:=t) (ord:=ord) (by simp[hh]) hf ti hne).toS
 have ol:ord.length=es.size:=by rw[po.length_eq];simp
 refine wpAny_pure ⟨plainId_quiet F.plain_extend_loop _,codeAny_extend_loopS W (by rw[ol];exact fits_of_scanBound hb) s.heap.objs.size (by simp;exact⟨fun z=>neI z.symm,ne,fun z=>netp z.symm⟩) _ ord.length 0 _ #[] _ rfl (Nat.zero_le _) ⟨up a _ (fun q=>ne q.symm) ho2,c.at (fun o e=>up I o neI e) fun o e=>up tp o netp e⟩ lst3 (ItemsOf.nil _) fun s' acc c' hm hS' hacc=>?_⟩
 refine wpAny_bind (m:=load s.heap.objs.size) (wpAny_load hS' ?_)
 have ea:acc.toList=ord:=by
  apply List.ext_getElem?
  intro k
  by_cases hk:k<acc.size
  ·have:=hacc.2 k acc[k] (by rw[Array.getElem?_eq_getElem hk])
   rw[this,Array.getElem?_toList,Array.getElem?_eq_getElem hk]
  ·rw[List.getElem?_eq_none (by simp;omega),List.getElem?_eq_none (by have:=hacc.1;omega)]
 obtain⟨h2,g2,d2,tk2,os2⟩:=s'
 have eg:g2=s.gens:=hm.gens
 have ed:d2=d1:=hm.drawn
 have eo:os2=s.os:=hm.os
 subst eg ed eo
 obtain⟨ns,hi,hpn⟩:=yq ia (vs':=acc.toList) (by rw[ea];exact po)
 refine wpAny_pure (h h2 tk2 d2 acc.toList ns hi (hpn.trans hp) (Nat.le_of_lt (Heap.lt_size hS')) fun b o e=>?_)
 have lt:b<s.heap.objs.size:=Heap.lt_size e
 refine hm.heap b o (by simp;exact⟨Nat.ne_of_lt lt,Nat.ne_of_lt (Nat.lt_trans lt szI)⟩) (up b o (Nat.ne_of_lt lt) (k1 b o (Heap.get?_push_of_some _ e)))
theorem wX(hh:A.handled=none){a:Addr}{ks:List Int}(g:SetG prog w (!bQ w) s.heap a ks)(h64:ks.length<64){Q:Value->Shared->Prop}
  (h:∀h' tk d' p n vs ns,s.heap.objs.size≤p->h'.get? p=some (seqObj "list" (vs:List Value).toArray n)->IntsAre vs ns->ns.Perm ks->ns.Pairwise (·≤ ·)->(∀b o,s.heap.get? b=some o->h'.get? b=some o)->Q (.ref p) { s with heap:=h',toks:=tk,drawn:=d' }) :
  wpAny (model prog w) A (call (.builtin "sorted") [.ref a]) Q E s:=by
 refine Calls.call_function_entry kind_sorted plain_sorted entry_sorted (args_sorted1 _) ?_
 unfold Builtin.«sorted»
 refine wpAny_bind (m:=checkCount "sorted" 1 1 _) (wpAny_pure ?_)
 refine wpAny_bind (uB (by simp[hh]) g fun h1 tk1 d1 vs ns hi hp sz k1=>?_)
 have vl:vs.length=ns.length:=IntsAre.length hi
 have nl:ns.length=ks.length:=hp.length_eq
 have zl:vs.toArray.size≤sizeLine:=by rw[List.size_toArray,sizeLine_eq];omega
 refine wpAny_bind (wpAny_newList ?_ zl)
 have oL:(h1.push (seqObj "list" vs.toArray 0)).get? h1.objs.size=some (seqObj "list" vs.toArray 0):=Heap.get?_push_size _ rfl
 refine wpAny_bind (wpAny_holding (wpAny_call_entry slot_list_sort ⟨_,oL,rfl⟩ entry_list_sort (list_sort_tree oL hi (by omega) fun out ns' a1 a2 a3=>⟨_,rfl,?_⟩) (args_list_sort _)))
 obtain⟨e,he⟩:=sortedHeap_at (out:=out) oL
 refine wpAny_pure ⟨_,rfl,h _ _ _ h1.objs.size e out.toList ns' sz (by simpa using he) a1 (a2.trans hp) a3 fun b o eb=>?_⟩
 have lt:=Heap.lt_size (k1 b o eb)
 rw[sortedHeap_old (Nat.ne_of_lt lt) (by rw[size_push'];exact Nat.lt_succ_of_lt lt)]
 exact Heap.get?_push_of_some _ (k1 b o eb)
end
end LS
namespace L2
open PySem PySem.Spec PyProof.Rows LS
def jr(x:Int):List Int->List Int
 |[]=>[x]
 |y::r=>if x≤y then x::y::r else y::jr x r
theorem kY (x:Int):∀ l:List Int,(jr x l).Perm (x::l)
 |[]=>.refl _
 |y::r=>by
   unfold jr
   split
   ·exact .refl _
   ·exact ((kY x r).cons y).trans (.swap x y r)
theorem qQ (x:Int):∀ {l:List Int},l.Pairwise (·≤ ·)->(jr x l).Pairwise (·≤ ·)
 |[],_=>by simp[jr]
 | y::r,h=>by
   unfold jr
   split
   ·rename_i c
    refine List.pairwise_cons.mpr ⟨fun z hz=>?_,h⟩
    rcases List.mem_cons.mp hz with rfl | hz
    ·exact c
    ·exact Int.le_trans c ((List.pairwise_cons.mp h).1 z hz)
   ·rename_i c
    have h':=List.pairwise_cons.mp h
    refine List.pairwise_cons.mpr ⟨fun z hz=>?_,qQ x h'.2⟩
    rcases List.mem_cons.mp ((kY x r).mem_iff.mp hz) with rfl | hz
    ·omega
    ·exact h'.1 z hz
def dD(ns:List Int):List Int:=(ns.foldl step_dedup []).foldr jr []
theorem du:∀ l:List Int,(l.foldr jr []).Perm l∧(l.foldr jr []).Pairwise (·≤ ·)
 |[]=>⟨.refl _,by simp⟩
 |x::l=>by
   obtain⟨a,b⟩:=du l
   exact⟨(kY x _).trans (a.cons x),qQ x b⟩
theorem m8:∀ {a b:List Int},a.Perm b->a.Pairwise (·≤ ·)->b.Pairwise (·≤ ·)->a=b
 |[],b,p,_,_=>p.nil_eq
 |x::a,[],p,_,_=>by have:=p.length_eq;simp at this
 | x::a,y::b,p,ha,hb=>by
   have h1:=List.pairwise_cons.mp ha
   have h2:=List.pairwise_cons.mp hb
   have xy:x=y:=by
    have m1:x∈y::b:=p.mem_iff.mp (List.mem_cons_self)
    have m2:y∈x::a:=p.mem_iff.mpr (List.mem_cons_self)
    rcases List.mem_cons.mp m1 with e | m1
    ·exact e
    ·rcases List.mem_cons.mp m2 with e | m2
     ·exact e.symm
     ·exact Int.le_antisymm (h1.1 y m2) (h2.1 x m1)
   subst xy
   rw[m8 (List.Perm.cons_inv p) h1.2 h2.2]
theorem vA(ns:List Int):(dD ns).length≤ns.length:=by
 unfold dD
 rw[(du _).1.length_eq]
 exact foldl_step_dedup_nil_length_le ns
theorem sZ(ns:List Int):firstMet (fun i=>ns.getD i 0) ns.length=ns.foldl step_dedup []:=by
 unfold firstMet
 congr 1
 apply List.ext_getElem?
 intro k
 by_cases hk:k<ns.length
 ·simp[hk]
 ·rw[List.getElem?_eq_none (by simp;omega),List.getElem?_eq_none (by omega)]
theorem qT:∀ {ns:List Int}{us:List Value},Vals (ns.map V.int) us->IntsAre us ns
 |[],_,.nil=>.nil
 |n::ns,_,.cons r rr=>by
   obtain⟨t,rfl⟩:=r
   exact .cons n t (qT rr)
theorem sE:bootBuiltins "sorted"=some (.builtin "sorted"):=by decide +kernel
theorem xH:bootBuiltins "set"=some (.type "set"):=by decide +kernel
section
variable{X:Cx}
def Ii(ta:TA):TE:=fun σ H Q=>ta σ H fun vs H1=>∃p ns,vs=[.ref p]∧H1 p=some (.lst (ns.map V.int))∧ns.length≤60∧∀l,H1 l=none->Q (.ref l) (upd H1 l (.lst ((dD ns).map V.int)))
theorem Do {a:Expr}{ta:TA}{p1 p2 pos1 pos2:Pos} (hc:X.calm=true) (hgL:Gl X "sorted") (hmL:X.mg "sorted"=none) (hg:Gl X "set") (hm:X.mg "set"=none) (ha:PA X [a] ta) (hs:notStar a=true:=by rfl) :
  PE X (.Call (.Name "sorted" p1) [.Call (.Name "set" p2) [a] [] pos2] [] pos1) (Ii ta):=by
 intro pins s σ H Q I h
 have hst:starEach [Expr.Call (.Name "set" p2) [a] [] pos2] X.env=(false,eval (.Call (.Name "set" p2) [a] [] pos2) X.env)::starEach [] X.env:=aX rfl
 refine Call_ (ld_blt I hgL hmL sE (PyProof.Rows.callWith_builtin1 ?_ hst rfl))
 rw[hst]
 show wpAny _ _ (spliced ((false,eval (.Call (.Name "set" p2) [a] [] pos2) X.env)::[])) _ _ s
 refine Calls.spliced_cons ?_
 refine Call_ (ld_blt I hg hm xH (PyProof.Rows.callWith_type1 (thn (ha pos2 pins s σ H _ I h) fun us s1 ⟨vs,H1,I1,r1,q1⟩=>?_) (aX hs) rfl))
 obtain⟨p,ns,e,hp,hl,q⟩:=q1
 subst e
 cases r1 with
 | cons r rr=>
   cases rr
   cases r
   obtain⟨_,its,n,vl,ho⟩:=I1.hok p _ hp
   have ia:=qT vl
   have il:its.length=ns.length:=IntsAre.length ia
   have hd:=I1.ok.hd hc
   refine xO (items:=its.toArray) (ns:=ns) hd ⟨_,ho,rfl,n,rfl⟩ (by simpa using ia) (by simp[scanBound];omega) fun h1 tk1 g k1=>?_
   refine Calls.spliced_nil ?_
   rw[show its.toArray.size=ns.length from by rw[List.size_toArray];exact il,sZ] at g
   have sl:(ns.foldl step_dedup []).length≤60:=Nat.le_trans (foldl_step_dedup_nil_length_le ns) hl
   refine wX (s:={ s1 with heap:=h1,toks:=tk1 }) hd g (by omega) fun h2 tk2 d2 l m ws ms hge hol ims pm so k2=>?_
   have sz:s1.heap.objs.size≤l:=by
    obtain⟨es,ep,t,hs1,_⟩:=g.ex
    exact Nat.le_trans (Nat.le_of_lt (Heap.lt_size hs1)) hge
   have em:ms=dD ns:=m8 (pm.trans (du _).1.symm) so (du _).2
   have kk:∀b o,s1.heap.get? b=some o->h2.get? b=some o:=fun b o e=>k2 b o (k1 b o (Heap.lt_size e) e)
   have zl:((dD ns).map V.int).length≤sizeLine:=by
    rw[List.length_map]
    have:=vA ns
    show _≤2^24
    omega
   have I2:=I1.call (h':=h2) (t':=tk2) (d':=d2) (g':=s1.gens) (ch:=[]) (Un.laid kk sz (I1.hok.fresh sz)) (I1.hok.laid (o:=.lst ((dD ns).map V.int)) kk sz ⟨zl,ws,m,by rw[←em];exact vals_ints ims,hol⟩) I1.bare (fun _ z=>nomatch z)
   exact⟨.ref l,upd H1 l (.lst ((dD ns).map V.int)),I2,rfl,q l (I1.hok.fresh sz)⟩
end
end L2
namespace LS
open PySem PySem.Spec PyProof.Rows
end LS
namespace L2
open PySem PySem.Spec PyProof.Rows LS
end L2
namespace L2
open PySem PySem.Spec PyProof.Rows
end L2
namespace L2
open PySem PySem.Spec PyProof.Rows LS
end L2
namespace L2
open PySem PySem.Spec PyProof.Rows
theorem vJ {pos:Pos}{a b:Int}{c cv:Value} (l:List Value) (h:TriplesOk l) (q:codeAmong pos (l++[rawInt a,rawInt b,c])=some cv):codeAmong pos l=some cv∨cv=c:=by
 fun_induction TriplesOk l with
 |case1=>
   simp only[List.nil_append,codeAmong,rawInt] at q
   split at q
   ·exact .inr (Option.some.inj q).symm
   ·cases q
 |case2 a' t b' u x rest ih=>
   simp only[List.cons_append,codeAmong] at q ⊢
   split at q
   ·rename_i hc;rw[if_pos hc];exact .inl q
   ·rename_i hc;rw[if_neg hc];exact ih h q
 |case3 l h1 h2=>exact h.elim
theorem RecAt.mono{H H':Hp}{v:Value}(r:RecAt H v)(f:∀b o,H b=some (.frz o (.own b))->H' b=some (.frz o (.own b))):RecAt H' v:=
 let ⟨c,o,fs,q,t,g1,g2,g3⟩:=r;⟨c,o,fs,q,t,g1,f c o g2,g3⟩
theorem RecAt.rec_{P:Program}{w:World}{H:Hp}{h:Heap}{v:Value}(r:RecAt H v)(ok:HOk P w H h):∃q,h.CodeRec v q:=by
 obtain⟨c,o,fs,q,t,g1,g2,g3,g4⟩:=r
 exact⟨q,c,o,fs,t,g1,(ok c _ g2).1,g3,g4⟩
abbrev o7(qual:Str)(params:Arguments)(body:Expr)(scope:Scope)(cl:List (Str×Addr))(pm cv ctv:Value):Obj:=
 { cls:=.type "function",data:=.func (PySem.W.kla_fn "<lambda>" qual params body scope cl pm cv ctv) }
def lM(H:Hp)(g:Addr)(params:Arguments)(body:Expr)(scope:Scope)(cl:List (Str×Addr)):Prop:=
 ∃qual pm cv ctv,H g=some (.frz (o7 qual params body scope cl pm cv ctv) (.own g))∧RecAt H cv
theorem lM.mono{H H':Hp}{g:Addr}{params:Arguments}{body:Expr}{scope:Scope}{cl:List (Str×Addr)}(r:lM H g params body scope cl)(f:∀b o,H b=some (.frz o (.own b))->H' b=some (.frz o (.own b))):lM H' g params body scope cl:=
 let ⟨qual,pm,cv,ctv,g1,g2⟩:=r;⟨qual,pm,cv,ctv,f g _ g1,g2.mono f⟩
def Hc(P:Addr)(params:Arguments)(body:Expr)(scope:Scope)(cl:List (Str×Addr)):TE:=fun _ H Q=>
 (∃ps,H P=some (.tbl ps))∧∀g H1,H g=none->Same H H1->lM H1 g params body scope cl->Q (.ref g) H1
theorem Gp {X:Cx}{c P:Addr}{params:Arguments}{body:Expr}{scope:Scope}{cl:List (Str×Addr)}{pos:Pos} (hcd:X.env.code=.ref c) (C:PySem.W.CodeHd X.base c P) (hP:mainGlobals≠P) (B:X.base.BuiltinsAt X.mg P)
  (hcl:closureFor scope X.env=pure cl) (hdef:defaultsOf params X.env=([],[]):=by rfl):PE X (.Lambda params body scope pos) (Hc P params body scope cl):=by
 intro pins s σ H Q I h
 obtain⟨⟨ps0,hT⟩,q⟩:=h
 obtain⟨ps,hP',tr,rc⟩:=I.hok P _ hT
 refine PySem.W.kla_eval hdef ?_
 have hg:s.heap.Ns mainGlobals X.mg:=I.ok.mod.glob.keeps I.bk
 have hb:s.heap.BuiltinsAt X.mg P:=let ⟨bm,o,a1,a2,a3,a4,a5,r⟩:=B;⟨bm,o,a1,a2,a3,a4,I.bk _ _ a5,r⟩
 cases hq:codeAmong pos ps.toList with
 | none=>
   refine PySem.W.kla_makeFunction hcl I.ok.glob hg hcd (C.keeps I.bk) hP' tr hq hP hb fun c' ctv h' tk hx hge hlt hrec htb=>?_
   obtain⟨c2,oc,vs,t,e2,hoc,hd,hv⟩:=hrec
   cases e2
   have fc:H c'=none:=I.hok.fresh hge
   have fg:H h'.objs.size=none:=I.hok.fresh (Nat.le_trans hge (Nat.le_of_lt hlt))
   have ncg:c'≠h'.objs.size:=Nat.ne_of_lt hlt
   let fo:Obj:=o7 (X.env.qual++"<lambda>") params body scope cl ((X.mg "__name__").getD .none) (.ref c') ctv
   let H1:Hp:=upd (upd H c' (.frz oc (.own c'))) h'.objs.size (.frz fo (.own h'.objs.size))
   have S:Same H H1:=fun b o e=>by
    show upd (upd H c' _) h'.objs.size _ b=_
    rw[upd_ne (ne_of_none e fg),upd_ne (ne_of_none e fc)];exact e
   have kp:∀b o,b≠P->s.heap.get? b=some o->(h'.push fo).get? b=some o:=fun b o hb e=>Heap.get?_push_of_some _ (hx b o hb e)
   have nP:∀b,H b=none->b≠P:=fun b n z=>by rw[z,hT] at n;cases n
   have g1:H1 h'.objs.size=some (.frz fo (.own h'.objs.size)):=upd_same
   have c1:H1 c'=some (.frz oc (.own c')):=by
    show upd (upd H c' _) h'.objs.size _ c'=_
    rw[upd_ne ncg];exact upd_same
   have r1:RecAt H1 (.ref c'):=⟨c',oc,vs,_,t,rfl,c1,hd,hv⟩
   have un:Un X.fs [] H H1 s.heap (h'.push fo):=by
    refine⟨fun b o e n _ _=>kp b o (nP b n) e,fun b o e n _ _=>⟨o.slots,kp b o (nP b n) e⟩,fun b o e n _=>?_,fun b o e _=>?_,fun b xs e=>S _ _ e,fun b o u e=>S _ _ e,fun b ps e=>⟨#[],by rw[S _ _ e];simp⟩⟩
    ·have l:=Heap.lt_size e
     show upd (upd H c' _) h'.objs.size _ b=_
     rw[upd_ne (Nat.ne_of_lt (Nat.lt_trans (Nat.lt_of_lt_of_le l hge) hlt)),upd_ne (Nat.ne_of_lt (Nat.lt_of_lt_of_le l hge))];exact n
    ·by_cases hb':b=P
     ·subst hb';exact⟨_,Heap.get?_push_of_some _ htb⟩
     ·exact⟨o,kp b o hb' e⟩
   have hok:HOk X.prog X.w H1 (h'.push fo):=fun b u e=>by
    by_cases bg:b=h'.objs.size
    ·subst bg
     rw[g1] at e;cases e
     exact⟨Heap.get?_push_size _ rfl,_,Heap.get?_push_size _ rfl⟩
    by_cases bc:b=c'
    ·subst bc
     rw[c1] at e;cases e
     exact⟨Heap.get?_push_of_some _ hoc,_,Heap.get?_push_of_some _ hoc⟩
    have e':H b=some u:=by
     have e:upd (upd H c' _) h'.objs.size _ b=some u:=e
     rw[upd_ne bg,upd_ne bc] at e;exact e
    by_cases bP:b=P
    ·subst bP
     rw[hT] at e';cases e'
     refine⟨_,Heap.get?_push_of_some _ htb,?_,fun pos' cv' z=>?_⟩
     ·rw[Array.toList_append];exact TriplesOk_snoc _ _ _ _ tr
     ·rw[Array.toList_append] at z
      rcases vJ _ tr z with z | z
      ·exact (rc _ _ z).mono fun b o e=>S _ _ e
      ·rw[z];exact r1
    ·refine (I.hok b u e').stay (fun d v hd' q'=>kp d v ?_ q') (fun d z=>S _ _ z) (fun d xs z=>S _ _ z) fun d o z=>S _ _ z
     rcases hd' with z | z
     ·rw[z];exact bP
     ·intro y;rw[y,hT] at z;cases z
   exact⟨.ref h'.objs.size,H1,I.un (t':=tk) un hok,rfl,q _ H1 fg S ⟨_,_,_,_,g1,r1⟩⟩
 |some cv=>
   have rcv:=rc _ _ hq
   refine PySem.W.kla_makeFunctionHit hcl I.ok.glob hg hcd (C.keeps I.bk) hP' tr hq hb fun ctv h' tk hk hsz=>?_
   have fg:H h'.objs.size=none:=I.hok.fresh hsz
   have S:Same H (upd H h'.objs.size (.frz (o7 (X.env.qual++"<lambda>") params body scope cl ((X.mg "__name__").getD .none) cv ctv) (.own h'.objs.size))):=same_new fg _
   refine⟨.ref h'.objs.size,_,I.laid (t':=tk) (o:=.frz (o7 (X.env.qual++"<lambda>") params body scope cl ((X.mg "__name__").getD .none) cv ctv) (.own h'.objs.size)) (fun b u e=>Heap.get?_push_of_some _ (hk b u e)) hsz ⟨Heap.get?_push_size _ rfl,_,Heap.get?_push_size _ rfl⟩,rfl,q _ _ fg S ⟨_,_,_,_,upd_same,rcv.mono fun b o e=>S _ _ e⟩⟩
def jP(P:Program)(w:World)(K:PySem.W.Frag)(mg:Str->Option Value)(base:Heap)(N:List Str)(qual:Str)(scope:Scope)(g:Addr)(cd:Value)(cl:List (Str×Addr))(A:Around)(outer:List Env)(s:Shared)(H:Hp)(E:XK):Cx where
 prog:=P
 w:=w
 K:=K
 mg:=mg
 base:=base
 A:=A.deeper (PySem.W.envX qual scope s.heap.objs.size g cd cl)
 N:=N
 s₀:=s
 H₀:=H
 env:=PySem.W.envX qual scope s.heap.objs.size g cd cl
 outer:=outer
 stack:=PySem.W.envX qual scope s.heap.objs.size g cd cl::outer
 ex:=[]
 calm:=true
 fn:=fun _=>false
 pn:=[]
 xe:=fun e s'=>wpAny (model P w) (A.deeper (PySem.W.envX qual scope s.heap.objs.size g cd cl)) (leaving (PySem.W.envX qual scope s.heap.objs.size g cd cl) e) (fun _ s''=>bw P w outer H s E e s'') (fun e' s''=>bw P w outer H s E e' s'') s'
structure LamOk(scope:Scope)(cl:List (Str×Addr))(fr:List Str):Prop where
 kind:scope.kind=.function
 co:scope.isCoroutine=false
 gen:scope.isGenerator=false
 cell:∀y∈scope.names,y.2≠.cell
 nd:fr.Nodup
 has:∀y,(scope.names.lookup y=some .cell∨scope.names.lookup y=some .free)->∃c,cl.lookup y=some c
 fre:∀y∈fr,scope.names.lookup y=some .free
structure CellsAt(cl:List (Str×Addr))(fr:List Str)(σ:St)(H:Hp)(h:Heap):Prop where
 inj:∀x y c,cl.lookup x=some c->cl.lookup y=some c->x=y
 cell:∀x c,cl.lookup x=some c->∃v,h.IsCell c v
 free:∀x c,cl.lookup x=some c->H c=none
 val:∀(i:Nat) x v,fr[i]?=some x->σ[i]?=some (some v)->∃u c,RelV v u∧cl.lookup x=some c∧h.IsCell c (some u)
 len:σ.length=fr.length
section
variable{P:Program}{w:World}{K:PySem.W.Frag}{mg:Str->Option Value}{base:Heap}{A:Around}{outer:List Env}{s:Shared}{H:Hp}{E:XK}{Q:VK}{k:Nat}{g:Addr}{params:Arguments}{body:Expr}{scope:Scope}{cl:List (Str×Addr)}{fr:List Str}{σ:St}
theorem CW{qual:Str}{cd:Value}{h1:Heap}{tk:Nat}{m:Str->Option Value}(T:LamOk scope cl fr)(e0:Env0 P w K mg base A outer s H)(hd:A.handled=none)(C:CellsAt cl fr σ H s.heap)(hns:h1.Ns s.heap.objs.size m)(hk:∀b o,s.heap.get? b=some o->h1.get? b=some o) :
  Inv (jP P w K mg base fr qual scope g cd cl A outer s H E) [] σ H { s with heap:=h1,toks:=tk }:=by
 have noA:∀b:Addr,b∉(jP P w K mg base fr qual scope g cd cl A outer s H E).ex:=fun b z=>absurd (show b∈([]:List Addr) from z) (by simp)
 refine⟨⟨e0.mod,T.kind,rfl,rfl,Nat.le_refl _,C.inj,T.has,fun y c z _=>absurd (show false=true from z) Bool.false_ne_true,fun _=>hd,Around.frames_deeper e0.frames,.inr ⟨rfl,rfl⟩,fun b z=>absurd z (noA b),e0.bs,e0.bsz,fun b _ _=>noA b,fun b z=>absurd z (noA b),e0.funs,e0.frf⟩,
  rfl,e0.bare,Un.kept hk,⟨m,hns,fun i y v h1 h2 h3=>?_⟩,fun y c h=>?_,e0.hok.fresh (Nat.le_refl _),fun y c h=>C.free y c h,fun p hp=>absurd (show p∈([]:List (Addr×Obj)) from hp) (by simp),e0.hok.kept hk,C.len⟩
 ·obtain⟨u,c,r,e,z⟩:=C.val i y v h1 h2
  exact⟨u,r,.inr ⟨.inr (T.fre y (List.mem_of_getElem? h1)),c,e,z.keeps hk⟩⟩
 ·obtain⟨v,z⟩:=C.cell y c h
  exact⟨v,z.keeps hk⟩
theorem DK(T:LamOk scope cl fr)(e0:Env0 P w K mg base A outer s H)(hr:Room (k+1) A)(L:lM H g params body scope cl)(C:CellsAt cl fr σ H s.heap)
  (hbind:∀qual pm cv ctv,bindArgs (PySem.W.kla_fn "<lambda>" qual params body scope cl pm cv ctv) ⟨[],[]⟩=pure [])
  (hbody:∀qual cd,Room k (A.deeper (PySem.W.envX qual scope s.heap.objs.size g cd cl))->∃t,PE (jP P w K mg base fr qual scope g cd cl A outer s H E) body t∧t σ H Q) :
  codeAny (model P w) A (.call (.ref g) ⟨[],[]⟩) (CR (bw P w) outer P w H s Q E) s:=by
 obtain⟨qual,pm,cv,ctv,hg,rc⟩:=L
 obtain⟨q,hcd⟩:=rc.rec_ e0.hok
 obtain⟨ho,_⟩:=e0.hok g _ hg
 have lim:s.heap.NoLimit:=e0.mod.nolimit.keeps fun b o e=>(e0.bs b o e).1
 obtain⟨c,oc,vs,tq,hc,hoc,hdc,hq⟩:=hcd
 subst hc
 refine codeAny_of_tree ?_
 show wpAny _ A.in1 (callAny (.ref g) ⟨[],[]⟩) _ _ s
 simp only[callAny]
 refine wpAny_bind (wpAny_load ho ?_)
 simp only[callFunction,T.co,T.gen]
 refine wpAny_bind (m:=field (.ref c) 1) (wpAny_field hoc hdc hq (wpAny_bind (wpAny_pure ?_)))
 rw[hbind]
 refine wpAny_bind (wpAny_pure (wpAny_bind (wpAny_newFunctionEnv T.cell (fun x hx=>by cases hx) (fun h1 hns hsb=>?_) T.kind)))
 have hk:∀b o,s.heap.get? b=some o->h1.get? b=some o:=fun b o e=>hsb.extBut b o (Nat.ne_of_lt (Heap.lt_size e)) (Heap.get?_push_of_some _ e)
 refine wpAny_bind (wpAny_enterFrame (lim.keeps hk) hr.depth (wpAny_pure (And.intro rfl ?_)))
 show codeAny _ _ (.expr body (PySem.W.envX q scope s.heap.objs.size g (.ref c) cl)) _ _
 obtain⟨t,ht,hq⟩:=hbody q (.ref c) (hr.deeper _)
 have I:Inv (jP P w K mg base fr q scope g (.ref c) cl A outer s H E) [] σ H { s with heap:=h1,toks:=s.toks+([]:List (Str×Value)).length }:=CW T e0 hr.hd C hns hk
 refine PySem.W.kla_codeExpr (wpAny_mono (ht [] _ σ H _ I hq) (fun u s' hs=>?_) fun e s' hs=>hs)
 obtain⟨v,H',J,rv,q⟩:=hs
 exact⟨v,H',J.os,J.bare,J.base,J.hok,rv,q⟩
theorem wI{N:List Str}{qual:Str}{cd:Value}:Passes (bw P w) (jP P w K mg base N qual scope g cd cl A outer s H E) E:=by
 intro pins σ H1 s1 e s' I hf
 obtain⟨x,C,a0,H',B,rfl,os,bare,un,hok,fl,ci,cii,q⟩:=hf
 have J:Inv (jP P w K mg base N qual scope g cd cl A outer s H E) pins σ H' s':=I.call' (ch:=[]) os un hok bare (fun b z=>absurd z (by simp))
 have hfr:(jP P w K mg base N qual scope g cd cl A outer s H E).A.frames=some ((jP P w K mg base N qual scope g cd cl A outer s H E).env::outer):=I.ok.frames
 have hfs:∀b∈frs outer,∃o,s'.heap.get? b=some o∧∀vs,o.data≠.fields vs:=fun b hb=>(fl.2.2.1.2.2.mem hb).2
 have hfrm:(jP P w K mg base N qual scope g cd cl A outer s H E).env.frame=some (jP P w K mg base N qual scope g cd cl A outer s H E).env.locals:=rfl
 have cov:∀b o,s.heap.get? b=some o->b∉frs outer->∃o',B.get? b=some o':=fun b o e hb=>by
  obtain⟨o1,h1⟩:=I.base.there b o e (show b∉([]:List Addr) by simp)
  refine cii b o1 h1 ?_
  show b∉frs ((jP P w K mg base N qual scope g cd cl A outer s H E).env::outer)
  rw[nu hfrm]
  intro hm
  rcases List.mem_cons.mp hm with rfl | hm
  ·exact absurd (Heap.lt_size e) (Nat.not_lt.mpr I.ok.above)
  ·exact hb hm
 show wpAny _ _ (leaving _ (.ref x)) _ _ s'
 refine wpAny_leaves_onW hfr rfl fl fun h' fl' up=>?_
 exact⟨x,C,a0,H',B,rfl,J.os,bare,jc J.base fl.1 fl'.1 up hfs cov,dg hok fl.1 fl'.1 ci,fl',ci,cov,q⟩
theorem Dy {x:Str}{st:Stmt}{f:Addr}{fd:FuncData}{N ps:List Str}{us:List Value}{vs:List V} (F:Fun K x x st f fd) (S:FnScope N ps (defScope st)) (e0:Env0 P w K mg base A outer s H) (hr:Room (k + 1) A)
  (hb:∀(kV doc pm:Value) (an:Option Addr) (cdv ct:Value),bindArgs (PySem.W.fnOf x x (defArgs st) (defBody st) (defScope st) .none kV doc pm an cdv ct) ⟨us,[]⟩=pure (ps.zip us)) (hl:vs.length=ps.length) (r:Vals vs us)
  (hbody:∀cdv,Room k (A.deeper (envOfC x (defScope st) s.heap.objs.size f cdv))->∃t,PSs (aH P w K mg base N x (defScope st) f cdv A outer s H E) (defBody st) t∧t { nx:=fun _ H'=>Q .non H',rt:=Q } (start N vs) H) :
  codeAny (model P w) A (.call (.ref f) ⟨us,[]⟩) (CR (bw P w) outer P w H s Q E) s:=by
 obtain⟨oc,od,kV,doc,pm,an,cdv,ct,osl,rfl,lk,hcd⟩:=F.ex
 have KX:K.In s.heap:=e0.mod.kin.keeps fun b o e=>(e0.bs b o e).1
 have lim:s.heap.NoLimit:=e0.mod.nolimit.keeps fun b o e=>(e0.bs b o e).1
 have hkind:∀y∈ps.zip us,(defScope st).names.lookup y.1=some .local∨((defScope st).names.lookup y.1=some .cell∧((cellsFrom (s.heap.objs.size+1) (defScope st).names []).lookup y.1).isSome=true):=fun⟨n,v⟩ hy=>by
  rcases S.par n (List.of_mem_zip hy).1 with q | q
  ·exact .inl q
  ·exact .inr ⟨q,PySem.W.cellsFrom_some _ _ _ (.inl q)⟩
 refine codeAny_call_function hr.depth (KX _ _ lk) rfl S.co S.gen rfl (PySem.W.codeRec_of KX hcd) ?_
 rw[hb]
 refine wpAny_pure (wpAny_newFunctionEnv_cells S.kind hkind fun env he s1 x=>?_)
 subst he
 refine⟨lim.keeps x.toInCall.keep,codeAny_func ?_⟩
 obtain⟨t,ht,hq⟩:=hbody cdv (hr.deeper _)
 have I:=inv_start (CX:=bw P w) (E:=E) S hr.hd e0 hl r x
 refine wpAny_mono (ht [] s1 (start N vs) H _ I hq) (fun fl s' hs=>?_) fun e s' hs=>hs
 cases fl with
 |ret u=>
   obtain⟨v,σ',H',J,rv,q⟩:=hs
   exact⟨v,H',J.os,J.bare,J.base,J.hok,rv,q⟩
 |next=>
   obtain⟨σ',H',J,q⟩:=hs
   exact⟨V.non,H',J.os,J.bare,J.base,J.hok,(rfl:RelV .non Value.none),q⟩
 |brk=>
   obtain⟨_,_,_,q⟩:=hs
   exact False.elim q
 |cont=>
   obtain⟨_,_,_,q⟩:=hs
   exact False.elim q
end
structure TabD(mg:Str->Option Value)(base:Heap)(c P:Addr):Prop where
 hd:PySem.W.CodeHd base c P
 ne:mainGlobals≠P
 bl:base.BuiltinsAt mg P
theorem yD {P:Program}{w:World}{K:PySem.W.Frag}{mg mb:Str->Option Value}{CX:CXT}{k:Nat}{fa a:Addr}{fd:FuncData}{x:Str}{sp:Sp}{s₁:Shared}{vs:List Value}{ns:List Int}{tabs:List (Addr×Addr)}
  (KX:K.In s₁.heap) (hns:s₁.heap.Ns mainGlobals mg) (hb:s₁.heap.Ns builtinsNs mb) (hbb:∀x:Str,x≠"__name__"->mb x=bootBuiltins x) (hlim:s₁.heap.NoLimit) (hg:s₁.gens=#[])
  (ha:s₁.heap.get? a=some { cls:=.type "list",data:=.seq vs.toArray }) (hi:IntsAre vs ns) (hl:ns.length≤sizeLine) (hr:Room k callerA) (hT:PySem.W.TabsAt tabs s₁.heap) (hKT:∀q∈tabs,K.lookup q.2=none) (hKA:K.lookup a=none)
  (hB:∃bm ob,mg "__builtins__"=some (.ref bm)∧bm≠builtinsNs∧s₁.heap.get? bm=some ob∧ob.cls=.type "module"∧ob.dict=some builtinsNs∧ob.data=.plain)
  (F:∀base:Heap,K.In base->base.Ns mainGlobals mg->(∀q∈tabs,TabD mg base q.1 q.2)->FnOk P w K mg base CX k fa fd [x] sp) (hbind:∀(s:Shared) (u:Value),BindsTo s fd ⟨[u],[]⟩ [(x,u)])
  (hsp:∀H:Hp,Rd H a (.lst (ns.map V.int))->(∀q∈tabs,H q.2=some (.tbl #[]))->sp [.ref a] H (fun v _=>v=.bl true) fun _ _ _=>False)
  (hCX:∀H e s',CX [] H s₁ (fun _ _ _=>False) e s'->False) :
  codeAny (model P w) callerA (.call (.ref fa) ⟨[.ref a],[]⟩) (fun r s'=>r=.ok (.ret (.bool true))∧OldK s₁.heap s'.heap∧s'.os=s₁.os∧AllBare s'.gens) s₁:=by
 have rv:=vals_ints hi
 have lenV:=hi.length
 let lo:Obj:={ cls:=.type "list",data:=.seq vs.toArray }
 let H:Hp:=fun b=>if b∈tabs.map (·.2) then some (.tbl #[]) else if b=a then some (.frz lo (.lst (ns.map V.int))) else none
 have tabO:∀b,b∈tabs.map (·.2)->s₁.heap.get? b=some (PySem.W.tabObj #[]):=fun b hb'=>by
  obtain⟨q,hq,rfl⟩:=List.mem_map.mp hb'
  exact (hT q hq).2
 have naT:a∉tabs.map (·.2):=fun z=>by
  have:=tabO a z
  rw[ha] at this;cases this
 have H1:∀b,b∈tabs.map (·.2)->H b=some (.tbl #[]):=fun b z=>if_pos z
 have H2:H a=some (.frz lo (.lst (ns.map V.int))):=(if_neg naT).trans (if_pos rfl)
 have H3:∀b,b∉tabs.map (·.2)->b≠a->H b=none:=fun b h1 h2=>(if_neg h1).trans (if_neg h2)
 have free:∀{b:Addr}{o:Obj},s₁.heap.get? b=some o->o≠PySem.W.tabObj #[]->o≠lo->H b=none:=fun {b o} e h1 h2=>H3 b (fun z=>h1 (by have:=tabO b z;rw[e] at this;exact Option.some.inj this)) (fun z=>h2 (by subst z;rw[ha] at e;exact (Option.some.inj e).symm))
 have hok:HOk P w H s₁.heap:=fun b u e=>by
  by_cases z:b∈tabs.map (·.2)
  ·rw[H1 b z] at e;cases e
   exact⟨#[],tabO b z,trivial,fun pos cv q=>by cases q⟩
  by_cases y:b=a
  ·subst y
   rw[H2] at e;cases e
   exact⟨ha,by rw[List.length_map];exact hl,vs,_,rv,ha⟩
  ·rw[H3 b z y] at e;cases e
 have base_of:∀{b:Addr}{o:Obj},s₁.heap.get? b=some o->o≠PySem.W.tabObj #[]->o≠lo->(hidT s₁.heap H).get? b=some o:=fun e h1 h2=>hidT_get e (free e h1 h2)
 have nsK:∀{b:Addr}{m:Str->Option Value},s₁.heap.Ns b m->(hidT s₁.heap H).Ns b m:=fun {b m} ⟨o,es,ep,e,d,r⟩=>⟨o,es,ep,base_of e (fun z=>by rw[z] at d;cases d) (fun z=>by rw[z] at d;cases d),d,r⟩
 have hKb:K.In (hidT s₁.heap H):=fun b o e=>hidT_get (KX b o e) (H3 b (fun z=>by
  obtain⟨q,hq,rfl⟩:=List.mem_map.mp z
  rw[hKT q hq] at e;cases e) fun z=>by rw[z,hKA] at e;cases e)
 have hM:Mod K mg (hidT s₁.heap H):=⟨hKb,nsK hns,⟨mb,nsK hb,hbb⟩,let ⟨mc,h1,h2⟩:=hlim;⟨mc,nsK h1,h2⟩⟩
 have e0:Env0 P w K mg (hidT s₁.heap H) callerA [] s₁ H:=⟨rfl,hM,fun b o e=>of_hidT e,Nat.le_of_eq (hidT_size _ _),trivial,fun b hb=>absurd (show b∈([]:List Addr) from hb) (by simp),hok,.of_eq hg⟩
 have hTD:∀ q∈tabs,TabD mg (hidT s₁.heap H) q.1 q.2:=fun q hq=>by
  obtain⟨o,vs',file,tf,flags,tg,inF,text,tt,e1,r1,r⟩:=(hT q hq).1
  have eP:=(hT q hq).2
  refine⟨⟨o,vs',file,tf,flags,tg,inF,text,tt,base_of e1 (fun z=>by rw[z] at r1;cases r1) (fun z=>by rw[z] at r1;simp[lo] at r1),r1,r⟩,fun z=>?_,?_⟩
  ·obtain⟨o',es,ep,e,d,_⟩:=hns
   rw[z,eP] at e;cases e;cases d
  ·obtain⟨bm,ob,b1,b2,b3,b4,b5,b6⟩:=hB
   refine⟨bm,ob,b1,b2,fun z=>?_,fun z=>?_,base_of b3 (fun z=>by rw[z] at b4;cases b4) (fun z=>by rw[z] at b4;simp[lo] at b4),b4,b5,b6⟩
   ·obtain⟨o',es,ep,e,d,_⟩:=hns
    rw[z,e] at b3;cases b3;rw[d] at b6;cases b6
   ·rw[z,eP] at b3;cases b3;cases b4
 refine codeAny_mono ((F _ hKb (nsK hns) hTD).run callerA [] s₁ H ⟨[.ref a],[]⟩ [.ref a] [.ref a] _ _ hr e0 (hbind s₁ (.ref a)) (.cons rfl .nil) (hsp H (.inr ⟨_,H2⟩) fun q hq=>H1 _ (List.mem_map_of_mem hq))) fun r s' h=>?_
 cases r with
 |error e=>exact (hCX H e s' h).elim
 | ok fl=>
   cases fl with
   |next=>exact False.elim h
   |brk=>exact False.elim h
   |cont=>exact False.elim h
   | ret u=>
     obtain⟨v,H',os,bare,un,hok',r',q⟩:=h
     have q':v=.bl true:=q
     subst q'
     obtain rfl:u=Value.bool true:=r'
     have kept:∀b o,s₁.heap.get? b=some o->b∉tabs.map (·.2)->s'.heap.get? b=some o:=fun b o e z=>by
      by_cases y:b=a
      ·subst y
       have z2:=un.frzs b lo _ H2
       obtain⟨e2,_⟩:=hok' b _ z2
       rw[ha] at e;cases e
       exact e2
      ·exact un.keep b o e (H3 b z y) (by intro z;exact absurd (show b∈([]:List Addr) from z) (by simp)) (by simp)
     have grown:∀b,b∈tabs.map (·.2)->∃ps,s'.heap.get? b=some (PySem.W.tabObj ps):=fun b z=>by
      obtain⟨m,e⟩:=un.tbls b _ (H1 b z)
      obtain⟨ps,e2,_⟩:=hok' b _ e
      exact⟨ps,e2⟩
     refine⟨rfl,⟨fun b o e=>?_,fun b o e=>?_⟩,os,bare⟩
     ·by_cases z:b∈tabs.map (·.2)
      ·obtain⟨ps,e2⟩:=grown b z
       obtain⟨q,hq,rfl⟩:=List.mem_map.mp z
       have e3:=(hT q hq).2
       rw[e] at e3
       cases Option.some.inj e3
       exact .inr (.inl ⟨((hT q hq).1.tab (hT q hq).2).isCodeTable,rfl,#[],ps,rfl,by rw[Array.empty_append];exact e2⟩)
      ·exact .inl (kept b o e z)
     ·by_cases z:b∈tabs.map (·.2)
      ·obtain⟨ps,e2⟩:=grown b z
       exact⟨_,e2⟩
      ·exact⟨o,kept b o e z⟩
theorem Fun.codeC{K:PySem.W.Frag}{mg:Str->Option Value}{x:Str}{st:Stmt}{f:Addr}{fd:FuncData}{c P:Addr}{h:Heap}(F:Fun K x x st f fd)(X:K.In h)(G:h.Ns mainGlobals mg)(m:mg x=some (.ref f))(ht:PySem.W.tabIn K x=some (c,P)):fd.code=.ref c:=by
 obtain⟨oc,od,kV,doc,pm,an,cdv,ct,osl,e,lk,_⟩:=F.ex
 exact PySem.W.law_code X G ht m (X _ _ lk) rfl
theorem Bl {l:PySem.W.OpenLaw}{n k:Nat}{q:Program}{loose:List Str}{XP:(Str->Option Value)->Heap->Prop}{YP:World->Heap->Prop}{d:DefRec}{K:Params->PySem.W.Frag}{CX:World->CXT}{sp:List (Addr×Addr)->Sp}{x:Str}{tn:List (Str×Addr×Addr)}
  (hn:l.most=some n) (hn2:n≤sizeLine) (hdf:d.params.defaults=[]) (hr:Room k callerA)
  (hY:∀(w:World) (h:Heap),YP w h->(K w.params).In h) (hnl:∀(w:World) (a:Addr) (o:Obj),(K w.params).lookup a=some o->o.cls≠.type "list")
  (h1:∀t∈tn,((recsOf q).find? (fun e=>e.name==t.1)).isSome=true) (h2:∀(w:World),∀t∈tn,PySem.W.tabIn (K w.params) t.1=some t.2) (h3:∀(w:World),∀t∈tn,(K w.params).lookup t.2.2=none)
  (F:∀ (w:World) (mg:Str->Option Value) (fa:Addr) (h:Heap),(K w.params).In h->h.Ns mainGlobals mg->mg d.name=some (.ref fa)->
    ∃fd:FuncData,(∀(s:Shared) (u:Value),BindsTo s fd ⟨[u],[]⟩ [(x,u)]) ∧
      ∀base:Heap,(K w.params).In base->base.Ns mainGlobals mg->(∀q∈tn.map (·.2),TabD mg base q.1 q.2)->FnOk l.prog w (K w.params) mg base (CX w) k fa fd [x] (sp (tn.map (·.2))))
  (hsp:∀(H:Hp) (a:Addr) (ns:List Int),ns.length≤n->Rd H a (.lst (ns.map V.int))->(∀q∈tn.map (·.2),H q.2=some (.tbl #[]))->sp (tn.map (·.2)) [.ref a] H (fun v _=>v=.bl true) fun _ _ _=>False)
  (hCX:∀(w:World) (H:Hp) (s:Shared) (e:Value) (s':Shared),CX w [] H s (fun _ _ _=>False) e s'->False) :
  PySem.W.WalkO q loose XP YP l.row.toRowW d [] (fun f vs=>PySem.call f vs):=by
 refine Att.attach_call hn hdf fun w s₀ s₁ mg mb fa o pm cd doc a vs ns G Y ho hd hcd hmg hobj hints hlen hg=>?_
 have KX:=hY w _ Y
 obtain⟨fd,hb,hF⟩:=F w mg fa _ KX G.T.g hmg
 have hKA:(K w.params).lookup a=none:=by
  cases z:(K w.params).lookup a with
  |none=>rfl
  |some oa=>
    have e:=KX a oa z
    rw[hobj] at e
    cases e
    exact absurd rfl (hnl w a _ z)
 have hT:PySem.W.TabsAt (tn.map (·.2)) s₁.heap:=fun q hq=>by
  obtain⟨t,ht,rfl⟩:=List.mem_map.mp hq
  obtain⟨d',hd'⟩:=Option.isSome_iff_exists.mp (h1 t ht)
  exact PySem.W.tab_of G.T KX hd' (h2 w t ht)
 exact yD KX G.T.g G.T.b G.T.builtins G.T.nolimit hg hobj hints (Nat.le_trans hlen hn2) hr hT (fun q hq=>by
  obtain⟨t,ht,rfl⟩:=List.mem_map.mp hq
  exact h3 w t ht) hKA G.T.bmain hF hb (fun H hS hH=>hsp H a ns hlen hS hH) fun H e s'=>hCX w H s₁ e s'
open PySem PySem.Spec PyProof.Rows
theorem zz{K:PySem.W.Frag}{x:Str}{f c P:Addr}{oc occ:Value}{od ocd:Option Addr}{osl ocs:Array (Option Value)}{fd:FuncData}{vs:Array Value}(a:PySem.W.nsIn K mainGlobals x=some (some (.ref f)))(l:K.lookup f=some ⟨oc,od,.func fd,osl⟩)(hc:fd.code=.ref c)
  (l2:K.lookup c=some ⟨occ,ocd,.fields vs,ocs⟩) (h11:vs[11]?=some (.ref P)):PySem.W.tabIn K x=some (c,P):=by
 unfold PySem.W.tabIn
 rw[a]
 simp only[l,hc,l2,h11]
end L2
namespace LB
open PySem PySem.W PyProof.Rows
end LB
namespace LB
open PySem PySem.W PySem.Calls PyProof.Rows
end LB
namespace L2
open PySem PySem.Spec PyProof.Rows LS LB
end L2
namespace LB
open PySem PySem.W PySem.Calls PyProof.Rows
end LB
namespace L2
open PySem PySem.Spec PyProof.Rows LS LB
end L2
namespace LA
open PySem LS
end LA
namespace LA
open PySem LS PyProof.Rows
end LA
namespace L2
open PySem PySem.Spec PyProof.Rows LS LA LB
end L2
namespace LA
open PySem PySem.Spec PyProof.Rows LS LB
end LA
namespace L2
open PySem PySem.Spec PyProof.Rows LS LA LB
end L2
namespace LA
open PySem PySem.Spec PyProof.Rows LS
end LA
namespace L3
open PySem PySem.Spec L2
open PyProof.Rows hiding St
inductive D where
 |non | bl (b:Bool) | int (i:Int) | str (x:Str)
 |tup (l:List D) | lst (l:List D)
 |dic (ks:List Key) (vs:List D)
 |obj (c:Str) (ns:List Str) (vs:List D)
 |scr (ns:List Int)
 |ref (n:Nat)
 |cls (c:Str) | ty (t:String)
 |exn (a:Addr)
instance:Inhabited D:=⟨.non⟩
inductive DO where
 |lst (l:List D)
 |dic (ks:List Key) (vs:List D)
 |ins (c:Str) (ns:List Str) (vs:List D)
abbrev Mo:=List DO
inductive R(α:Type) where
 |ok (a:α) | exc (c:Str)
def DM(α:Type):=Mo->Option (R α×Mo)
@[reducible] def DM.pure{α:Type}(a:α):DM α:=fun M=>some (.ok a,M)
def DM.bind{α β:Type}(m:DM α)(f:α->DM β):DM β:=fun M=>match m M with
 |none=>none
 |some (.exc c,M')=>some (.exc c,M')
 |some (.ok a,M')=>f a M'
instance:Monad DM where
 pure:=DM.pure
 bind:=DM.bind
def rd{α:Type}(f:Mo->Option α):DM α:=fun M=>(f M).map fun a=>(.ok a,M)
def opt{α:Type}(o:Option α):DM α:=fun M=>o.map fun a=>(.ok a,M)
def stuck{α:Type}:DM α:=fun _=>none
def raise{α:Type}(c:Str):DM α:=fun M=>some (.exc c,M)
abbrev aa:=List (Option D)
structure Rh where
 st:List Addr
 vo:List Addr
instance:Membership Addr Rh:=⟨fun ρ a=>a∈ρ.st∨a∈ρ.vo⟩
def Rh.put(ρ:Rh)(p:Addr):Rh:=⟨ρ.st++[p],ρ.vo⟩
def Rh.hold(ρ:Rh)(p:Addr):Rh:=⟨ρ.st,p::ρ.vo⟩
mutual
inductive Cv(mg:Str->Option Value)(ρ:Rh)(H:Hp):V->D->Prop
 |non:Cv mg ρ H .non .non
 |bl (b:Bool):Cv mg ρ H (.bl b) (.bl b)
 |int (i:Int):Cv mg ρ H (.int i) (.int i)
 |str (x:Str):Cv mg ρ H (.str x) (.str x)
 |tup {a:Addr}{xs:List V}{ds:List D}:a∉ρ->H a=some (.tup xs)->Cvs mg ρ H xs ds->Cv mg ρ H (.ref a) (.tup ds)
 |lst {a:Addr}{xs:List V}{ds:List D}:a∉ρ->H a=some (.lst xs)->Cvs mg ρ H xs ds->Cv mg ρ H (.ref a) (.lst ds)
 |dic {a:Addr}{ks:List Key}{xs:List V}{ds:List D}:a∉ρ->H a=some (.dK (ks.zip xs))->ks.length=xs.length->Cvs mg ρ H xs ds->Cv mg ρ H (.ref a) (.dic ks ds)
 |obj {a C dx:Addr}{c:Str}{ns:List Str}{xs:List V}{ds:List D}:a∉ρ->mg c=some (.ref C)->H a=some (.ins C dx (ns.zip xs))->ns.length=xs.length->Cvs mg ρ H xs ds->Cv mg ρ H (.ref a) (.obj c ns ds)
 |scr {a:Addr}{ns:List Int}:a∉ρ->Rd H a (.lst (ns.map V.int))->Cv mg ρ H (.ref a) (.scr ns)
 |ref {n:Nat}{a:Addr}:ρ.st[n]?=some a->Cv mg ρ H (.ref a) (.ref n)
 |cls {c:Str}{C:Addr}:mg c=some (.ref C)->Cv mg ρ H (.ref C) (.cls c)
 |ty (t:String):Cv mg ρ H (.ty t) (.ty t)
 |exn (a:Addr):Cv mg ρ H (.ref a) (.exn a)
inductive Cvs(mg:Str->Option Value)(ρ:Rh)(H:Hp):List V->List D->Prop
 |nil:Cvs mg ρ H [] []
 |cons {v:V}{d:D}{vs:List V}{ds:List D}:Cv mg ρ H v d->Cvs mg ρ H vs ds->Cvs mg ρ H (v::vs) (d::ds)
end
structure Ext(ρ:Rh)(H:Hp)(ρ':Rh)(H':Hp):Prop where
 pre:∃τ,ρ'.st=ρ.st++τ
 vo:ρ'.vo=ρ.vo
 new:∀a,a∈ρ'.st->a∉ρ.st->H a=none
 keep:∀a o,H a=some o->a∉ρ.st->H' a=some o
theorem Ext.refl{ρ:Rh}{H:Hp}:Ext ρ H ρ H:=⟨⟨[],by simp⟩,rfl,fun a h n=>absurd h n,fun _ _ h _=>h⟩
theorem Ext.keeps{ρ ρ':Rh}{H H':Hp}(e:Ext ρ H ρ' H'){a:Addr}{o:HO}(h:H a=some o)(n:a∉ρ):H' a=some o:=e.keep a o h fun z=>n (.inl z)
theorem Ext.out1{ρ ρ':Rh}{H H':Hp}(e:Ext ρ H ρ' H'){a:Addr}{o:HO}(h:H a=some o)(n:a∉ρ.st):a∉ρ'.st:=fun z=>by
 have:=e.new a z n
 rw[h] at this;cases this
theorem Ext.out{ρ ρ':Rh}{H H':Hp}(e:Ext ρ H ρ' H'){a:Addr}{o:HO}(h:H a=some o)(n:a∉ρ):a∉ρ':=fun z=>by
 rcases z with z | z
 ·exact e.out1 h (fun y=>n (.inl y)) z
 ·rw[e.vo] at z;exact n (.inr z)
theorem Ext.trans {ρ ρ1 ρ2:Rh}{H H1 H2:Hp} (e:Ext ρ H ρ1 H1) (f:Ext ρ1 H1 ρ2 H2):Ext ρ H ρ2 H2:=by
 refine⟨?_,f.vo.trans e.vo,fun a h n=>?_,fun a o h n=>f.keep a o (e.keep a o h n) (e.out1 h n)⟩
 ·obtain⟨τ,h1⟩:=e.pre
  obtain⟨υ,h2⟩:=f.pre
  exact⟨τ++υ,by rw[h2,h1,List.append_assoc]⟩
 ·by_cases z:a∈ρ1.st
  ·exact e.new a z n
  ·cases q:H a with
   |none=>rfl
   |some o=>
     have:=f.new a h z
     rw[e.keep a o q n] at this;cases this
theorem Ext.at{ρ ρ':Rh}{H H':Hp}(e:Ext ρ H ρ' H'){n:Nat}{a:Addr}(h:ρ.st[n]?=some a):ρ'.st[n]?=some a:=by
 obtain⟨τ,h1⟩:=e.pre
 rw[h1,List.getElem?_append_left (List.getElem?_eq_some_iff.mp h).1];exact h
theorem Rh.nhold{ρ:Rh}{a p:Addr}(h:a∉ρ)(n:a≠p):a∉ρ.hold p:=fun z=>by
 rcases z with z | z
 ·exact h (.inl z)
 ·rcases List.mem_cons.mp z with z | z
  ·exact n z
  ·exact h (.inr z)
theorem Rd.some{H:Hp}{a:Addr}{u:HO}(h:Rd H a u):∃o,H a=some o:=by
 rcases h with h | ⟨o,h⟩
 ·exact⟨_,h⟩
 ·exact⟨_,h⟩
section
variable{mg:Str->Option Value}{ρ ρ':Rh}{H H':Hp}
mutual
theorem Cv.mono (e:Ext ρ H ρ' H'):∀ {v:V}{d:D},Cv mg ρ H v d->Cv mg ρ' H' v d
 |_,_,.non=>.non
 |_,_,.bl b=>.bl b
 |_,_,.int i=>.int i
 |_,_,.str x=>.str x
 |_,_,.tup n h c=>.tup (e.out h n) (e.keeps h n) (Cvs.mono e c)
 |_,_,.lst n h c=>.lst (e.out h n) (e.keeps h n) (Cvs.mono e c)
 |_,_,.dic n h l c=>.dic (e.out h n) (e.keeps h n) l (Cvs.mono e c)
 |_,_,.obj n m h l c=>.obj (e.out h n) m (e.keeps h n) l (Cvs.mono e c)
 |_,_,.scr n h=>.scr (by obtain⟨o,q⟩:=Rd.some h;exact e.out q n) (by
   rcases h with h | ⟨o,h⟩
   ·exact .inl (e.keeps h n)
   ·exact .inr ⟨o,e.keeps h n⟩)
 |_,_,.ref h=>.ref (e.at h)
 |_,_,.cls h=>.cls h
 |_,_,.ty t=>.ty t
 |_,_,.exn a=>.exn a
theorem Cvs.mono(e:Ext ρ H ρ' H'):∀{vs:List V}{ds:List D},Cvs mg ρ H vs ds->Cvs mg ρ' H' vs ds
 |_,_,.nil=>.nil
 |_,_,.cons h t=>.cons (Cv.mono e h) (Cvs.mono e t)
end
theorem Cvs.len:∀{vs:List V}{ds:List D},Cvs mg ρ H vs ds->vs.length=ds.length
 |_,_,.nil=>rfl
 |_,_,.cons _ t=>by rw[List.length_cons,List.length_cons,Cvs.len t]
theorem Cvs.append:∀{vs us:List V}{ds es:List D},Cvs mg ρ H vs ds->Cvs mg ρ H us es->Cvs mg ρ H (vs++us) (ds++es)
 |_,_,_,_,.nil,h=>h
 |_,_,_,_,.cons a b,h=>.cons a (Cvs.append b h)
theorem Cvs.take:∀{vs:List V}{ds:List D} (n:Nat),Cvs mg ρ H vs ds->Cvs mg ρ H (vs.take n) (ds.take n)
 |_,_,0,_=>by simp only[List.take_zero];exact .nil
 |_,_,n+1,.nil=>by simp only[List.take_nil];exact .nil
 |_,_,n+1,.cons a b=>by simp only[List.take_succ_cons];exact .cons a (Cvs.take n b)
theorem Cvs.drop:∀{vs:List V}{ds:List D} (n:Nat),Cvs mg ρ H vs ds->Cvs mg ρ H (vs.drop n) (ds.drop n)
 |_,_,0,h=>by simp only[List.drop_zero];exact h
 |_,_,n+1,.nil=>by simp only[List.drop_nil];exact .nil
 |_,_,n+1,.cons a b=>by simp only[List.drop_succ_cons];exact Cvs.drop n b
theorem Cvs.get:∀ {vs:List V}{ds:List D}{i:Nat}{d:D},Cvs mg ρ H vs ds->ds[i]?=some d->∃ v,vs[i]?=some v∧Cv mg ρ H v d
 |_,_,i,_,.nil,e=>by simp at e
 |_,_,0,_,.cons h _,e=>by simp at e;subst e;exact⟨_,rfl,h⟩
 |_,_,i+1,_,.cons _ t,e=>by
   obtain⟨v,q,c⟩:=Cvs.get (i:=i) t (by simpa using e)
   exact⟨v,by simpa using q,c⟩
theorem Cvs.set{v:V}{d:D}(h:Cv mg ρ H v d):∀{vs:List V}{ds:List D} (i:Nat),Cvs mg ρ H vs ds->Cvs mg ρ H (vs.set i v) (ds.set i d)
 |_,_,_,.nil=>.nil
 |_,_,0,.cons _ t=>.cons h t
 |_,_,i+1,.cons a t=>.cons a (Cvs.set h i t)
theorem Cvs.ints:∀ns:List Int,Cvs mg ρ H (ns.map V.int) (ns.map D.int)
 |[]=>.nil
 |n::ns=>.cons (.int n) (Cvs.ints ns)
def jL(mg:Str->Option Value)(ρ:Rh)(H:Hp)(a:Addr):DO->Prop
 |.lst l=>∃xs,H a=some (.lst xs)∧Cvs mg ρ H xs l
 |.dic ks l=>∃xs,H a=some (.dK (ks.zip xs))∧ks.length=xs.length∧Cvs mg ρ H xs l
 |.ins c ns l=>∃C dx xs,mg c=some (.ref C)∧H a=some (.ins C dx (ns.zip xs))∧ns.length=xs.length∧Cvs mg ρ H xs l
theorem jL.some{a:Addr}{o:DO}(h:jL mg ρ H a o):∃u,H a=some u:=by
 cases o with
 |lst l=>obtain⟨xs,h,_⟩:=h;exact⟨_,h⟩
 |dic ks l=>obtain⟨xs,h,_⟩:=h;exact⟨_,h⟩
 |ins c ns l=>obtain⟨C,dx,xs,_,h,_⟩:=h;exact⟨_,h⟩
theorem jL.mono{a:Addr}{o:DO}(e:Ext ρ H ρ' H')(k:H' a=H a)(h:jL mg ρ H a o):jL mg ρ' H' a o:=by
 cases o with
 |lst l=>obtain⟨xs,h,c⟩:=h;exact⟨xs,k.trans h,c.mono e⟩
 |dic ks l=>obtain⟨xs,h,q,c⟩:=h;exact⟨xs,k.trans h,q,c.mono e⟩
 |ins c ns l=>obtain⟨C,dx,xs,m,h,q,c⟩:=h;exact⟨C,dx,xs,m,k.trans h,q,c.mono e⟩
structure J(mg:Str->Option Value)(ρ:Rh)(M:Mo)(H:Hp):Prop where
 len:ρ.st.length=M.length
 nd:ρ.st.Nodup
 obj:∀(n:Nat) a o,ρ.st[n]?=some a->M[n]?=some o->jL mg ρ H a o
 vol:∀a,a∈ρ.vo->a∉ρ.st∧∃xs,H a=some (.lst xs)
theorem J.some{M:Mo}(j:J mg ρ M H){a:Addr}(h:a∈ρ):∃u,H a=some u:=by
 rcases h with h | h
 ·obtain⟨n,hn⟩:=List.mem_iff_getElem?.mp h
  have lt:n<M.length:=by rw[←j.len];exact (List.getElem?_eq_some_iff.mp hn).1
  exact (j.obj n a M[n] hn (List.getElem?_eq_getElem lt)).some
 ·obtain⟨_,xs,e⟩:=j.vol a h
  exact⟨_,e⟩
theorem J.fresh{M:Mo}(j:J mg ρ M H){p:Addr}(h:H p=none):p∉ρ:=fun z=>by
 obtain⟨u,e⟩:=j.some z
 rw[h] at e;cases e
theorem J.inj{M:Mo}(j:J mg ρ M H){n m:Nat}{a:Addr}(h:ρ.st[n]?=Option.some a)(k:ρ.st[m]?=Option.some a):n=m:=by
 obtain⟨h1,e1⟩:=List.getElem?_eq_some_iff.mp h
 obtain⟨h2,e2⟩:=List.getElem?_eq_some_iff.mp k
 have q:∀i k (hi:i<ρ.st.length) (hk:k<ρ.st.length),i<k->ρ.st[i]≠ρ.st[k]:=fun i k hi hk lt=>List.pairwise_iff_getElem.mp j.nd i k hi hk lt
 rcases Nat.lt_trichotomy n m with z | z | z
 ·exact absurd (e1.trans e2.symm) (q n m h1 h2 z)
 ·exact z
 ·exact absurd (e2.trans e1.symm) (q m n h2 h1 z)
theorem Ext.lay{p:Addr}{o:HO}(h:H p=none):Ext ρ H ρ (upd H p o):=⟨⟨[],by simp⟩,rfl,fun a h n=>absurd h n,fun a o e _=>by rw[upd_ne (ne_of_none e h)];exact e⟩
theorem Ext.same(S:Same H H'):Ext ρ H ρ H':=⟨⟨[],by simp⟩,rfl,fun a h n=>absurd h n,fun a o e _=>S _ _ e⟩
theorem J.same{M:Mo}(j:J mg ρ M H)(S:Same H H'):J mg ρ M H':=⟨j.len,j.nd,fun n a o h k=>by
 have c:=j.obj n a o h k
 obtain⟨u,e⟩:=c.some
 exact c.mono (Ext.same S) (by rw[e,S _ _ e]),fun a h=>let ⟨x,xs,e⟩:=j.vol a h;⟨x,xs,S _ _ e⟩⟩
theorem J.lay{M:Mo}(j:J mg ρ M H){p:Addr}(o:HO)(h:H p=none):J mg ρ M (upd H p o):=j.same (same_new h o)
theorem Ext.put{p:Addr}{o:HO}(h:H p=none):Ext ρ H (ρ.put p) (upd H p o):=⟨⟨[p],rfl⟩,rfl,fun a ha n=>by
 rcases List.mem_append.mp ha with z | z
 ·exact absurd z n
 ·rw[List.mem_singleton.mp z];exact h,fun a o e _=>by rw[upd_ne (ne_of_none e h)];exact e⟩
theorem J.put {M:Mo} (j:J mg ρ M H) {p:Addr}{o:HO}{u:DO} (h:H p=none) (c:jL mg (ρ.put p) (upd H p o) p u):J mg (ρ.put p) (M++[u]) (upd H p o):=by
 have np:p∉ρ.st:=fun z=>j.fresh h (.inl z)
 refine⟨?_,?_,fun n a w h1 h2=>?_,fun a ha=>?_⟩
 ·show (ρ.st++[p]).length=_
  rw[List.length_append,List.length_append,j.len];rfl
 ·show (ρ.st++[p]).Nodup
  rw[List.nodup_append]
  exact⟨j.nd,by simp,fun x hx y hy e=>by rw[List.mem_singleton.mp hy] at e;exact np (e ▸ hx)⟩
 ·have h1:(ρ.st++[p])[n]?=Option.some a:=h1
  by_cases hn:n<ρ.st.length
  ·rw[List.getElem?_append_left hn] at h1
   rw[List.getElem?_append_left (by rw[←j.len];exact hn)] at h2
   have c:=j.obj n a w h1 h2
   exact c.mono (Ext.put h) (upd_ne fun (z:a=p)=>np (z ▸ List.mem_of_getElem? h1))
  ·have hl:n<(ρ.st++[p]).length:=(List.getElem?_eq_some_iff.mp h1).1
   rw[List.length_append] at hl
   have e:n=ρ.st.length:=by have:[p].length=1:=rfl;omega
   subst e
   rw[List.getElem?_append_right (Nat.le_refl _)] at h1
   rw[j.len,List.getElem?_append_right (Nat.le_refl _)] at h2
   simp at h1 h2
   subst h1 h2
   exact c
 ·obtain⟨x,xs,e⟩:=j.vol a ha
  have ne:a≠p:=ne_of_none e h
  refine⟨fun z=>?_,xs,by rw[upd_ne ne];exact e⟩
  rcases List.mem_append.mp z with z | z
  ·exact x z
  ·exact ne (List.mem_singleton.mp z)
theorem Ext.upd{p:Addr}{o:HO}(h:p∈ρ.st):Ext ρ H ρ (L2.upd H p o):=⟨⟨[],by simp⟩,rfl,fun a h n=>absurd h n,fun a u e n=>by rw[upd_ne (fun (z:a=p)=>n (z ▸ h))];exact e⟩
theorem J.upd {M:Mo} (j:J mg ρ M H) {n:Nat}{p:Addr}{o:HO}{u:DO} (h:ρ.st[n]?=Option.some p) (c:jL mg ρ (L2.upd H p o) p u):J mg ρ (M.set n u) (L2.upd H p o):=by
 refine⟨by rw[List.length_set];exact j.len,j.nd,fun m a w h1 h2=>?_,fun a ha=>?_⟩
 ·by_cases e:m=n
  ·subst e
   rw[h] at h1;cases h1
   have lt:m<M.length:=by rw[←j.len];exact (List.getElem?_eq_some_iff.mp h).1
   rw[List.getElem?_set_self lt] at h2
   cases h2
   exact c
  ·rw[List.getElem?_set_ne (fun z=>e z.symm)] at h2
   have ne:a≠p:=fun z=>by subst z;exact e (j.inj h1 h)
   exact (j.obj m a w h1 h2).mono (Ext.upd (List.mem_of_getElem? h)) (by rw[upd_ne ne])
 ·obtain⟨x,xs,e⟩:=j.vol a ha
  exact⟨x,xs,by rw[upd_ne (fun (z:a=p)=>x (z ▸ List.mem_of_getElem? h))];exact e⟩
theorem gk{p a:Addr}{o:HO}(hp:p∈ρ.vo)(n:a∉ρ):L2.upd H p o a=H a:=upd_ne fun z=>n (by rw[z];exact .inr hp)
mutual
theorem Cv.hold {p:Addr}{o:HO} (hp:p∈ρ.vo):∀ {v:V}{d:D},Cv mg ρ H v d->Cv mg ρ (L2.upd H p o) v d
 |_,_,.non=>.non
 |_,_,.bl b=>.bl b
 |_,_,.int i=>.int i
 |_,_,.str x=>.str x
 |_,_,.tup n h c=>.tup n ((gk hp n).trans h) (Cvs.hold hp c)
 |_,_,.lst n h c=>.lst n ((gk hp n).trans h) (Cvs.hold hp c)
 |_,_,.dic n h l c=>.dic n ((gk hp n).trans h) l (Cvs.hold hp c)
 |_,_,.obj n m h l c=>.obj n m ((gk hp n).trans h) l (Cvs.hold hp c)
 |_,_,.scr n h=>.scr n (by
   rcases h with h | ⟨o,h⟩
   ·exact .inl ((gk hp n).trans h)
   ·exact .inr ⟨o,(gk hp n).trans h⟩)
 |_,_,.ref h=>.ref h
 |_,_,.cls h=>.cls h
 |_,_,.ty t=>.ty t
 |_,_,.exn a=>.exn a
theorem Cvs.hold{p:Addr}{o:HO}(hp:p∈ρ.vo):∀{vs:List V}{ds:List D},Cvs mg ρ H vs ds->Cvs mg ρ (L2.upd H p o) vs ds
 |_,_,.nil=>.nil
 |_,_,.cons h t=>.cons (Cv.hold hp h) (Cvs.hold hp t)
end
mutual
theorem Cv.less{ρ1:Rh}(hs:ρ1.st=ρ.st)(hv:∀a,a∈ρ1.vo->a∈ρ.vo):∀{v:V}{d:D},Cv mg ρ H v d->Cv mg ρ1 H v d
 |_,_,.non=>.non
 |_,_,.bl b=>.bl b
 |_,_,.int i=>.int i
 |_,_,.str x=>.str x
 |_,_,.tup n h c=>.tup (fun z=>n (z.elim (fun y=>.inl (hs ▸ y)) fun y=>.inr (hv _ y))) h (Cvs.less hs hv c)
 |_,_,.lst n h c=>.lst (fun z=>n (z.elim (fun y=>.inl (hs ▸ y)) fun y=>.inr (hv _ y))) h (Cvs.less hs hv c)
 |_,_,.dic n h l c=>.dic (fun z=>n (z.elim (fun y=>.inl (hs ▸ y)) fun y=>.inr (hv _ y))) h l (Cvs.less hs hv c)
 |_,_,.obj n m h l c=>.obj (fun z=>n (z.elim (fun y=>.inl (hs ▸ y)) fun y=>.inr (hv _ y))) m h l (Cvs.less hs hv c)
 |_,_,.scr n h=>.scr (fun z=>n (z.elim (fun y=>.inl (hs ▸ y)) fun y=>.inr (hv _ y))) h
 |_,_,.ref h=>.ref (by rw[hs];exact h)
 |_,_,.cls h=>.cls h
 |_,_,.ty t=>.ty t
 |_,_,.exn a=>.exn a
theorem Cvs.less{ρ1:Rh}(hs:ρ1.st=ρ.st)(hv:∀a,a∈ρ1.vo->a∈ρ.vo):∀{vs:List V}{ds:List D},Cvs mg ρ H vs ds->Cvs mg ρ1 H vs ds
 |_,_,.nil=>.nil
 |_,_,.cons h t=>.cons (Cv.less hs hv h) (Cvs.less hs hv t)
end
mutual
theorem Cv.more{p:Addr}(hp:H p=none):∀{v:V}{d:D},Cv mg ρ H v d->Cv mg (ρ.hold p) H v d
 |_,_,.non=>.non
 |_,_,.bl b=>.bl b
 |_,_,.int i=>.int i
 |_,_,.str x=>.str x
 |_,_,.tup n h c=>.tup (Rh.nhold n (ne_of_none h hp)) h (Cvs.more hp c)
 |_,_,.lst n h c=>.lst (Rh.nhold n (ne_of_none h hp)) h (Cvs.more hp c)
 |_,_,.dic n h l c=>.dic (Rh.nhold n (ne_of_none h hp)) h l (Cvs.more hp c)
 |_,_,.obj n m h l c=>.obj (Rh.nhold n (ne_of_none h hp)) m h l (Cvs.more hp c)
 |_,_,.scr n h=>.scr (Rh.nhold n (by obtain⟨o,q⟩:=Rd.some h;exact ne_of_none q hp)) h
 |_,_,.ref h=>.ref h
 |_,_,.cls h=>.cls h
 |_,_,.ty t=>.ty t
 |_,_,.exn a=>.exn a
theorem Cvs.more{p:Addr}(hp:H p=none):∀{vs:List V}{ds:List D},Cvs mg ρ H vs ds->Cvs mg (ρ.hold p) H vs ds
 |_,_,.nil=>.nil
 |_,_,.cons h t=>.cons (Cv.more hp h) (Cvs.more hp t)
end
theorem jL.map{ρ1:Rh}{H1:Hp}{a:Addr}{o:DO}(k:H1 a=H a)(f:∀vs ds,Cvs mg ρ H vs ds->Cvs mg ρ1 H1 vs ds)(h:jL mg ρ H a o):jL mg ρ1 H1 a o:=by
 cases o with
 |lst l=>obtain⟨xs,h,c⟩:=h;exact⟨xs,k.trans h,f _ _ c⟩
 |dic ks l=>obtain⟨xs,h,q,c⟩:=h;exact⟨xs,k.trans h,q,f _ _ c⟩
 |ins c ns l=>obtain⟨C,dx,xs,m,h,q,c⟩:=h;exact⟨C,dx,xs,m,k.trans h,q,f _ _ c⟩
theorem J.begin {M:Mo} (j:J mg ρ M H) {p:Addr} (hp:H p=none):J mg (ρ.hold p) M (L2.upd H p (.lst [])):=by
 have np:p∉ρ.st:=fun z=>j.fresh hp (.inl z)
 refine⟨j.len,j.nd,fun n a o h1 h2=>?_,fun a ha=>?_⟩
 ·exact (j.obj n a o h1 h2).map (upd_ne fun (z:a=p)=>np (z ▸ List.mem_of_getElem? h1)) fun vs ds c=>(c.more hp).hold (.head _)
 ·rcases List.mem_cons.mp ha with rfl | ha
  ·exact⟨np,[],upd_same⟩
  ·obtain⟨x,xs,e⟩:=j.vol a ha
   exact⟨x,xs,by rw[upd_ne (ne_of_none e hp)];exact e⟩
theorem J.grow {M:Mo} (j:J mg ρ M H) {p:Addr}{ys:List V} (hp:p∈ρ.vo):J mg ρ M (L2.upd H p (.lst ys)):=by
 refine⟨j.len,j.nd,fun n a o h1 h2=>?_,fun a ha=>?_⟩
 ·exact (j.obj n a o h1 h2).map (upd_ne fun (z:a=p)=>(j.vol p hp).1 (z ▸ List.mem_of_getElem? h1)) fun vs ds c=>c.hold hp
 ·by_cases z:a=p
  ·subst z;exact⟨(j.vol a ha).1,ys,upd_same⟩
  ·obtain⟨x,xs,e⟩:=j.vol a ha
   exact⟨x,xs,by rw[upd_ne z];exact e⟩
theorem J.done{M:Mo}{p:Addr}{ρ1:Rh}(j:J mg ρ1 M H)(hv:ρ1.vo=p::ρ.vo):J mg ⟨ρ1.st,ρ.vo⟩ M H:=by
 refine⟨j.len,j.nd,fun n a o h1 h2=>?_,fun a ha=>?_⟩
 ·exact jL.map (ρ:=ρ1) rfl (fun vs ds c=>Cvs.less (ρ:=ρ1) (ρ1:=⟨ρ1.st,ρ.vo⟩) rfl (fun a ha=>by rw[hv];exact .tail _ ha) c) (j.obj n a o h1 h2)
 ·obtain⟨x,y⟩:=j.vol a (by rw[hv];exact .tail _ ha)
  exact⟨x,y⟩
end
structure Kp(ρ:Rh)(H:Hp)(ρ':Rh)(H':Hp):Prop where
 pre:∃τ,ρ'.st=ρ.st++τ
 keep:∀a o,H a=some o->a∉ρ->a∉ρ'∧H' a=some o
theorem Ext.kp{ρ ρ':Rh}{H H':Hp}(e:Ext ρ H ρ' H'):Kp ρ H ρ' H':=⟨e.pre,fun a o h n=>⟨e.out h n,e.keeps h n⟩⟩
theorem Kp.trans{ρ ρ1 ρ2:Rh}{H H1 H2:Hp}(a:Kp ρ H ρ1 H1)(b:Kp ρ1 H1 ρ2 H2):Kp ρ H ρ2 H2:=by
 refine⟨?_,fun c o h n=>let ⟨x,y⟩:=a.keep c o h n;b.keep c o y x⟩
 obtain⟨τ,h1⟩:=a.pre
 obtain⟨υ,h2⟩:=b.pre
 exact⟨τ++υ,by rw[h2,h1,List.append_assoc]⟩
theorem Kp.at{ρ ρ':Rh}{H H':Hp}(e:Kp ρ H ρ' H'){n:Nat}{a:Addr}(h:ρ.st[n]?=some a):ρ'.st[n]?=some a:=by
 obtain⟨τ,h1⟩:=e.pre
 rw[h1,List.getElem?_append_left (List.getElem?_eq_some_iff.mp h).1];exact h
section
variable{mg:Str->Option Value}{ρ ρ':Rh}{H H':Hp}
mutual
theorem Cv.kp (e:Kp ρ H ρ' H'):∀ {v:V}{d:D},Cv mg ρ H v d->Cv mg ρ' H' v d
 |_,_,.non=>.non
 |_,_,.bl b=>.bl b
 |_,_,.int i=>.int i
 |_,_,.str x=>.str x
 |_,_,.tup n h c=>.tup (e.keep _ _ h n).1 (e.keep _ _ h n).2 (Cvs.kp e c)
 |_,_,.lst n h c=>.lst (e.keep _ _ h n).1 (e.keep _ _ h n).2 (Cvs.kp e c)
 |_,_,.dic n h l c=>.dic (e.keep _ _ h n).1 (e.keep _ _ h n).2 l (Cvs.kp e c)
 |_,_,.obj n m h l c=>.obj (e.keep _ _ h n).1 m (e.keep _ _ h n).2 l (Cvs.kp e c)
 |_,_,.scr n h=>by
   rcases h with h | ⟨o,h⟩
   ·exact .scr (e.keep _ _ h n).1 (.inl (e.keep _ _ h n).2)
   ·exact .scr (e.keep _ _ h n).1 (.inr ⟨o,(e.keep _ _ h n).2⟩)
 |_,_,.ref h=>.ref (e.at h)
 |_,_,.cls h=>.cls h
 |_,_,.ty t=>.ty t
 |_,_,.exn a=>.exn a
theorem Cvs.kp(e:Kp ρ H ρ' H'):∀{vs:List V}{ds:List D},Cvs mg ρ H vs ds->Cvs mg ρ' H' vs ds
 |_,_,.nil=>.nil
 |_,_,.cons h t=>.cons (Cv.kp e h) (Cvs.kp e t)
end
end
def vG(mg:Str->Option Value)(ρ:Rh)(H:Hp){α β:Type}(rel:Rh->Hp->β->α->Prop)(Q:β->Hp->Prop)(E:XK):R α×Mo->Prop
 |(.ok a,M')=>∀ρ' H' b,Ext ρ H ρ' H'->J mg ρ' M' H'->rel ρ' H' b a->Q b H'
 |(.exc c,M')=>∀ρ' H' C,Ext ρ H ρ' H'->J mg ρ' M' H'->mg c=some (.ref C)->E (.ref C) none H'
def Go(mg:Str->Option Value)(E:XK){α β:Type}(rel:Rh->Hp->β->α->Prop)(Q:β->Hp->Prop)(ρ:Rh)(H:Hp)(m:DM α)(M:Mo):Prop:=∃r,m M=some r∧vG mg ρ H rel Q E r
section
variable{mg:Str->Option Value}{ρ ρ':Rh}{H H':Hp}{E:XK}{α β γ δ':Type}{rel:Rh->Hp->β->α->Prop}{rel':Rh->Hp->δ'->γ->Prop}{Q:δ'->Hp->Prop}{Q':β->Hp->Prop}
theorem vG.mono{r:R α×Mo}(e:Ext ρ H ρ' H')(h:vG mg ρ H rel Q' E r):vG mg ρ' H' rel Q' E r:=by
 obtain⟨r,M'⟩:=r
 cases r with
 |ok a=>exact fun ρ2 H2 b e2 j c=>h ρ2 H2 b (e.trans e2) j c
 |exc c=>exact fun ρ2 H2 C e2 j m=>h ρ2 H2 C (e.trans e2) j m
theorem Go.bind{m:DM α}{k:α->DM γ}{M:Mo}(g:Go mg E rel' Q ρ H (m>>=k) M)
  (f:∀ρ1 H1 M1 b a,Ext ρ H ρ1 H1->J mg ρ1 M1 H1->rel ρ1 H1 b a->Go mg E rel' Q ρ1 H1 (k a) M1->Q' b H1):Go mg E rel Q' ρ H m M:=by
 obtain⟨r,e,p⟩:=g
 have e:DM.bind m k M=some r:=e
 unfold DM.bind at e
 split at e
 ·cases e
 ·rename_i c M' em
  cases e
  exact⟨_,em,p⟩
 ·rename_i a M' em
  exact⟨_,em,fun ρ1 H1 b x j c=>f ρ1 H1 M' b a x j c ⟨r,e,p.mono x⟩⟩
theorem Go.rd{f:Mo->Option α}{M:Mo}(g:Go mg E rel Q' ρ H (rd f) M):∃a,f M=some a∧∀ρ' H' b,Ext ρ H ρ' H'->J mg ρ' M H'->rel ρ' H' b a->Q' b H':=by
 obtain⟨r,e,p⟩:=g
 obtain⟨a,e1,rfl⟩:=Option.map_eq_some_iff.mp e
 exact⟨a,e1,p⟩
theorem Go.opt{o:Option α}{M:Mo}(g:Go mg E rel Q' ρ H (opt o) M):∃a,o=some a∧∀ρ' H' b,Ext ρ H ρ' H'->J mg ρ' M H'->rel ρ' H' b a->Q' b H':=by
 obtain⟨r,e,p⟩:=g
 obtain⟨a,e1,rfl⟩:=Option.map_eq_some_iff.mp e
 exact⟨a,e1,p⟩
theorem Go.pure{a:α}{M:Mo}(g:Go mg E rel Q' ρ H (pure a) M):∀ρ' H' b,Ext ρ H ρ' H'->J mg ρ' M H'->rel ρ' H' b a->Q' b H':=by
 obtain⟨r,e,p⟩:=g
 have e:some (R.ok a,M)=some r:=e
 cases e
 exact p
end
structure Ev(mg:Str->Option Value)(ρ:Rh)(H:Hp)(σ:St)(δ:aa):Prop where
 len:σ.length=δ.length
 val:∀(i:Nat) d,δ[i]?=some (some d)->∃v,σ[i]?=some (some v)∧Cv mg ρ H v d
theorem Ev.mono{mg:Str->Option Value}{ρ ρ':Rh}{H H':Hp}{σ:St}{δ:aa}(e:Ext ρ H ρ' H')(h:Ev mg ρ H σ δ):Ev mg ρ' H' σ δ:=
 ⟨h.len,fun i d q=>let ⟨v,a,b⟩:=h.val i d q;⟨v,a,b.mono e⟩⟩
theorem Ev.kp{mg:Str->Option Value}{ρ ρ':Rh}{H H':Hp}{σ:St}{δ:aa}(e:Kp ρ H ρ' H')(h:Ev mg ρ H σ δ):Ev mg ρ' H' σ δ:=
 ⟨h.len,fun i d q=>let ⟨v,a,b⟩:=h.val i d q;⟨v,a,b.kp e⟩⟩
theorem Ev.set{mg:Str->Option Value}{ρ:Rh}{H:Hp}{σ:St}{δ:aa}{i:Nat}{v:V}{d:D}(h:Ev mg ρ H σ δ)(c:Cv mg ρ H v d):Ev mg ρ H (σ.set i (some v)) (δ.set i (some d)):=by
 refine⟨by rw[List.length_set,List.length_set,h.len],fun j x q=>?_⟩
 by_cases e:j=i
 ·subst e
  have hj:j<(δ.set j (some d)).length:=(List.getElem?_eq_some_iff.mp q).1
  rw[List.length_set] at hj
  rw[List.getElem?_set_self hj] at q
  cases q
  exact⟨v,List.getElem?_set_self (by rw[h.len];exact hj),c⟩
 ·rw[List.getElem?_set_ne (fun z=>e z.symm)] at q ⊢
  exact h.val j x q
def tD(mg:Str->Option Value)(E:XK){α β:Type}(rel:Rh->Hp->β->α->Prop)(f:aa->DM α):St->Hp->(β->Hp->Prop)->Prop:=fun σ H Q=>
 ∃ρ δ M,Ev mg ρ H σ δ∧J mg ρ M H∧Go mg E rel Q ρ H (f δ) M
def Bv(_:Rh)(_:Hp)(b a:Bool):Prop:=b=a
structure DE(X:Cx)(E:XK)(e:Expr)(f:aa->DM D):Prop where
 h:PE X e (tD X.mg E (Cv X.mg) f)
structure DA(X:Cx)(E:XK)(es:List Expr)(f:aa->DM (List D)):Prop where
 h:QA X es (tD X.mg E (Cvs X.mg) f)
structure DT(X:Cx)(E:XK)(e:Expr)(f:aa->DM Bool):Prop where
 h:PT X e (tD X.mg E Bv f)
theorem PE.mono{X:Cx}{e:Expr}{t t':TE}(h:PE X e t)(f:∀σ H Q,t' σ H Q->t σ H Q):PE X e t':=fun pins s σ H Q I q=>h pins s σ H Q I (f σ H Q q)
theorem PT.mono{X:Cx}{e:Expr}{t t':TT}(h:PT X e t)(f:∀σ H Q,t' σ H Q->t σ H Q):PT X e t':=fun pins s σ H Q I q=>h pins s σ H Q I (f σ H Q q)
theorem PA.mono{X:Cx}{e:List Expr}{t t':TA}(h:PA X e t)(f:∀σ H Q,t' σ H Q->t σ H Q):PA X e t':=fun p pins s σ H Q I q=>h p pins s σ H Q I (f σ H Q q)
mutual
def toPy:D->Option PyData
 |.non=>some .none
 |.bl b=>some (.bool b)
 |.int i=>some (.int i)
 |.str x=>some (.str x)
 |.tup l=>(iC l).map .tuple
 |.lst l=>(iC l).map .list
 |_=>none
def iC:List D->Option (List PyData)
 |[]=>some []
 |d::l=>match toPy d,iC l with
   |some p,some ps=>some (p::ps)
   |_,_=>none
end
section
variable{mg:Str->Option Value}{ρ:Rh}{H:Hp}
mutual
theorem Cv.repF:∀ {v:V}{d:D}{p:PyData},Cv mg ρ H v d->toPy d=some p->RepF H true v p
 |_,_,_,.non,e=>by simp only[toPy,Option.some.injEq] at e;subst e;exact .non
 |_,_,_,.bl b,e=>by simp only[toPy,Option.some.injEq] at e;subst e;exact .bl b
 |_,_,_,.int i,e=>by simp only[toPy,Option.some.injEq] at e;subst e;exact .int i
 |_,_,_,.str x,e=>by simp only[toPy,Option.some.injEq] at e;subst e;exact .str x
 |_,_,_,.tup _ h c,e=>by
   simp only[toPy] at e
   obtain⟨ps,e1,rfl⟩:=Option.map_eq_some_iff.mp e
   exact .tup h (Cvs.repF c e1)
 |_,_,_,.lst _ h c,e=>by
   simp only[toPy] at e
   obtain⟨ps,e1,rfl⟩:=Option.map_eq_some_iff.mp e
   exact .lst h (Cvs.repF c e1)
 |_,_,_,.dic ..,e=>by simp[toPy] at e
 |_,_,_,.obj ..,e=>by simp[toPy] at e
 |_,_,_,.scr ..,e=>by simp[toPy] at e
 |_,_,_,.ref ..,e=>by simp[toPy] at e
 |_,_,_,.cls ..,e=>by simp[toPy] at e
 |_,_,_,.ty ..,e=>by simp[toPy] at e
 |_,_,_,.exn ..,e=>by simp[toPy] at e
theorem Cvs.repF:∀ {vs:List V}{ds:List D}{ps:List PyData},Cvs mg ρ H vs ds->iC ds=some ps->RepsF H true vs ps
 |_,_,_,.nil,e=>by simp only[iC,Option.some.injEq] at e;subst e;exact .nil
 | _,_,_,.cons (d:=d) (ds:=ds) h t,e=>by
   simp only[iC] at e
   split at e
   ·rename_i p ps h1 h2
    cases e
    exact .cons (Cv.repF h h1) (Cvs.repF t h2)
   ·cases e
end
end
section
variable{X:Cx}{E:XK}{a b c:Expr}{fa fb fc:aa->DM D}{pos:Pos}
def bD(i:Nat)(δ:aa):DM D:=opt ((δ[i]?).join)
theorem ao(i:Nat){x:Str}(hN:X.N[i]?=some x:=by rfl)(hv:Vis X.env.scope x:=by first | exact Or.inl rfl | exact Or.inr (Or.inl rfl) | exact Or.inr (Or.inr rfl))(hd:(x==("__debug__":Str))=false:=by decide)
  (hcd:(x==("__classdict__":Str))=false:=by decide):DE X E (.Name x pos) (bD i):=⟨PE.mono (pe_var (i:=i) hN hv hd hcd) fun σ H Q h=>by
 obtain⟨ρ,δ,M,ev,j,g⟩:=h
 obtain⟨d,e,q⟩:=g.opt
 have e':δ[i]?=some (some d):=by
  cases z:δ[i]? with
  |none=>rw[z] at e;cases e
  |some o=>rw[z] at e;exact congrArg some e
 obtain⟨v,h1,h2⟩:=ev.val i d e'
 exact⟨v,h1,q ρ H v .refl j h2⟩⟩
theorem cY{e:Expr}{v:V}{d:D}(h:PE X e (tC v))(hc:∀ρ H,Cv X.mg ρ H v d):DE X E e (fun _=>pure d):=⟨PE.mono h fun σ H Q h=>by
 obtain⟨ρ,δ,M,ev,j,g⟩:=h
 exact g.pure ρ H v .refl j (hc _ _)⟩
theorem aq{i j}:DE X E (.Constant (.int i) j pos) (fun _=>pure (.int i)):=cY pe_int fun _ _=>.int i
theorem cV{i j}:DE X E (.Constant (.bool i) j pos) (fun _=>pure (.bl i)):=cY pe_bl fun _ _=>.bl i
theorem oU{j}:DE X E (.Constant .none j pos) (fun _=>pure .non):=cY pe_non fun _ _=>.non
theorem aY{x j}:DE X E (.Constant (.str x) j pos) (fun _=>pure (.str x)):=cY pe_str fun _ _=>.str x
theorem lO{x:Str}{i:Int}{t:Tok}(h:X.mg x=some (.int i t))(hg:Gl X x:=by rfl)(hd:(x==("__debug__":Str))=false:=by decide):DE X E (.Name x pos) (fun _=>pure (.int i)):=cY (Hz h hg hd) fun _ _=>.int i
theorem km{x:Str}{C:Addr}(h:X.mg x=some (.ref C))(hg:Gl X x:=by rfl)(hd:(x==("__debug__":Str))=false:=by decide):DE X E (.Name x pos) (fun _=>pure (.cls x)):=cY (Gm h hg hd) fun _ _=>.cls h
theorem fX{x:Str}{T:String}(hm:X.mg x=none)(hg:Gl X x:=by rfl)(hv:bootBuiltins x=some (.type T):=by decide +kernel)(hn:x≠"__name__":=by decide)(hdb:(x==("__debug__":Str))=false:=by decide):DE X E (.Name x pos) (fun _=>pure (.ty T)):=
 cY (HD hm hg hv hn hdb) fun _ _=>.ty T
def rD(mg:Str->Option Value)(E:XK)(g:D->D->DM D):R2:=fun x y H Q=>∃ρ M dx dy,J mg ρ M H∧Cv mg ρ H x dx∧Cv mg ρ H y dy∧Go mg E (Cv mg) Q ρ H (g dx dy) M
def bH(X:Cx)(E:XK)(f:Value->Value->Sem Value)(g:D->D->DM D):Prop:=OpR X f (rD X.mg E g)
theorem uT{g:D->D->DM D}{r:R2}(hr:∀x y H Q,rD X.mg E g x y H Q->r x y H Q){σ:L2.St}{H:Hp}{Q:VK}(h:tD X.mg E (Cv X.mg) (fun δ=>fa δ>>=fun x=>fb δ>>=fun y=>g x y) σ H Q) :
  tOp r (tD X.mg E (Cv X.mg) fa) (tD X.mg E (Cv X.mg) fb) σ H Q:=by
 obtain⟨ρ,δ,M,ev,j,g1⟩:=h
 exact⟨ρ,δ,M,ev,j,g1.bind fun ρ1 H1 M1 x dx e1 j1 c1 g2=>⟨ρ1,δ,M1,ev.mono e1,j1,g2.bind fun ρ2 H2 M2 y dy e2 j2 c2 g3=>hr _ _ _ _ ⟨ρ2,M2,dx,dy,j2,c1.mono e2,c2,g3⟩⟩⟩
theorem aK{op:Operator}{g:D->D->DM D}(ho:bH X E (binaryOp op) g)(ha:DE X E a fa)(hb:DE X E b fb):DE X E (.BinOp a op b pos) (fun δ=>fa δ>>=fun x=>fb δ>>=fun y=>g x y):=
 ⟨PE.mono (pe_op ho ha.h hb.h) fun σ H Q h=>uT (fun _ _ _ _ z=>z) h⟩
theorem gq{op:CmpOp}{g:D->D->DM D}(ho:bH X E (compareOp op) g)(ha:DE X E a fa)(hb:DE X E b fb)(hm:behindInMarks op b=false:=by first | exact nomark _ | rfl):DE X E (.Compare a [op] [b] pos) (fun δ=>fa δ>>=fun x=>fb δ>>=fun y=>g x y):=
 ⟨PE.mono (pe_cmpR ho ha.h hb.h hm) fun σ H Q h=>uT (fun _ _ _ _ z=>z) h⟩
def eY:D->DM Bool
 |.bl b=>pure b
 |_=>stuck
theorem Go.eY{mg:Str->Option Value}{ρ:Rh}{H:Hp}{d:D}{M:Mo}{Q:Bool->Hp->Prop}(g:Go mg E Bv Q ρ H (eY d) M):∃k,d=.bl k∧∀ρ' H',Ext ρ H ρ' H'->J mg ρ' M H'->Q k H':=by
 cases d with
 |bl k=>exact⟨k,rfl,fun ρ' H' e j=>(show Go mg E Bv Q ρ H (Pure.pure k) M from g).pure ρ' H' k e j rfl⟩
 |_=>obtain⟨r,e,_⟩:=g;cases e
theorem dt_of{e:Expr}{f:aa->DM D}{t:TE}(h:PT X e (tTest t))(ht:∀σ H Q,tD X.mg E (Cv X.mg) f σ H Q->t σ H Q):DT X E e (fun δ=>f δ>>=eY):=⟨PT.mono h fun σ H Q h=>by
 obtain⟨ρ,δ,M,ev,j,g1⟩:=h
 refine ht _ _ _ ⟨ρ,δ,M,ev,j,g1.bind fun ρ1 H1 M1 x dx e1 j1 c1 g2=>?_⟩
 obtain⟨k,rfl,q⟩:=Go.eY g2
 cases c1
 exact⟨k,rfl,q ρ1 H1 .refl j1⟩⟩
theorem bF{op:CmpOp}{g:D->D->DM D}(ho:bH X E (compareOp op) g)(ha:DE X E a fa)(hb:DE X E b fb)(hm:behindInMarks op b=false:=by first | exact nomark _ | rfl):DT X E (.Compare a [op] [b] pos) (fun δ=>(fa δ>>=fun x=>fb δ>>=fun y=>g x y)>>=eY):=
 dt_of (pt_cmpR ho ha.h hb.h hm) fun σ H Q h=>uT (fun _ _ _ _ z=>z) h
theorem Iv {g g':D->D->DM D}{σ:L2.St}{H:Hp}{Q:VK} (h:tD X.mg E (Cv X.mg) (fun δ=>fa δ >>= fun x=>fb δ >>= fun y=>g x y >>= fun z=>eY z >>= fun k=>if k then fc δ >>= fun w=>g' y w else pure (.bl false)) σ H Q) :
  tChain (rD X.mg E g) (rD X.mg E g') (tD X.mg E (Cv X.mg) fa) (tD X.mg E (Cv X.mg) fb) (tD X.mg E (Cv X.mg) fc) σ H Q:=by
 obtain⟨ρ,δ,M,ev,j,g1⟩:=h
 refine⟨ρ,δ,M,ev,j,g1.bind fun ρ1 H1 M1 x dx e1 j1 c1 g2=>⟨ρ1,δ,M1,ev.mono e1,j1,g2.bind fun ρ2 H2 M2 y dy e2 j2 c2 g3=>⟨ρ2,M2,dx,dy,j2,c1.mono e2,c2,g3.bind fun ρ3 H3 M3 z dz e3 j3 c3 g4=>?_⟩⟩⟩
 have g5:=g4.bind (rel:=Bv) (Q':=fun k H4=>dz=.bl k∧∃ρ4 M4,Ext ρ3 H3 ρ4 H4∧J X.mg ρ4 M4 H4∧Go X.mg E (Cv X.mg) Q ρ4 H4 (if k then fc δ>>=fun w=>g' dy w else pure (.bl false)) M4)
 have key:∃k,dz=.bl k∧Go X.mg E (Cv X.mg) Q ρ3 H3 (if k then fc δ>>=fun w=>g' dy w else pure (.bl false)) M3:=by
  cases dz with
  |bl k=>exact⟨k,rfl,g4⟩
  |_=>obtain⟨r,e,_⟩:=g4;cases e
 obtain⟨k,rfl,g6⟩:=key
 cases c3
 refine⟨k,rfl,?_⟩
 cases k with
 |false=>exact iteF (g6.pure ρ3 H3 _ .refl j3 (.bl false))
 |true=>
   have g6:Go X.mg E (Cv X.mg) Q ρ3 H3 (fc δ>>=fun w=>g' dy w) M3:=g6
   exact iteT ⟨ρ3,δ,M3,((ev.mono e1).mono e2).mono e3,j3,g6.bind fun ρ4 H4 M4 w dw e4 j4 c4 g7=>⟨ρ4,M4,dy,dw,j4,(c2.mono e3).mono e4,c4,g7⟩⟩
theorem sJ{op op':CmpOp}{g g':D->D->DM D}(ho:bH X E (compareOp op) g)(ho':bH X E (compareOp op') g')(ha:DE X E a fa)(hb:DE X E b fb)(hc:DE X E c fc)(hm:lastMarks [op,op'] [b,c]=false:=by with_unfolding_all rfl) :
  DE X E (.Compare a [op,op'] [b,c] pos) (fun δ=>fa δ>>=fun x=>fb δ>>=fun y=>g x y>>=fun z=>eY z>>=fun k=>if k then fc δ>>=fun w=>g' y w else pure (.bl false)):=
 ⟨PE.mono (pe_chain ho ho' ha.h hb.h hc.h hm) fun σ H Q h=>Iv h⟩
theorem nq{op op':CmpOp}{g g':D->D->DM D}(ho:bH X E (compareOp op) g)(ho':bH X E (compareOp op') g')(ha:DE X E a fa)(hb:DE X E b fb)(hc:DE X E c fc)(hm:lastMarks [op,op'] [b,c]=false:=by with_unfolding_all rfl) :
  DT X E (.Compare a [op,op'] [b,c] pos) (fun δ=>(fa δ>>=fun x=>fb δ>>=fun y=>g x y>>=fun z=>eY z>>=fun k=>if k then fc δ>>=fun w=>g' y w else pure (.bl false))>>=eY):=
 dt_of (pt_chain ho ho' ha.h hb.h hc.h hm) fun σ H Q h=>Iv h
def jK:D->Mo->Option Bool
 |.non,_=>some false
 |.bl b,_=>some b
 |.int i,_=>some (i != 0)
 |.str y,_=>if y.length≤sizeLine then some ((y.length:Int) != 0) else none
 |.tup l,_=>some (!l.isEmpty)
 |.lst l,_=>some (!l.isEmpty)
 |.scr l,_=>some (!l.isEmpty)
 |.dic ks _,_=>some (!ks.isEmpty)
 |.ref n,M=>match M[n]? with
   |some (.lst l)=>some (!l.isEmpty)
   |some (.dic ks _)=>some (!ks.isEmpty)
   |_=>none
 |_,_=>none
theorem q9 {α β:Type}{ks:List α}{xs:List β} (h:ks.length=xs.length):(ks.zip xs).isEmpty=ks.isEmpty:=by
 cases ks with
 |nil=>simp
 |cons k ks=>cases xs with
   |nil=>simp at h
   |cons x xs=>rfl
theorem Cvs.empty{mg:Str->Option Value}{ρ:Rh}{H:Hp}{vs:List V}{ds:List D}(c:Cvs mg ρ H vs ds):vs.isEmpty=ds.isEmpty:=by cases c<;>rfl
theorem Hg {K:PySem.W.Frag}{mg:Str->Option Value}{ρ:Rh}{H:Hp}{M:Mo}{x:V}{d:D}{k:Bool} (j:J mg ρ M H) (h:Cv mg ρ H x d) (e:jK d M=some k):TruV K x H k:=by
 cases h with
 |non=>cases e;rfl
 |bl b=>cases e;rfl
 |int i=>cases e;rfl
 |str y=>
   unfold jK at e
   dsimp only at e
   split at e
   ·cases e;exact⟨‹_›,rfl⟩
   ·cases e
 |tup n h c=>cases e;exact .inr (.inl ⟨_,SqT.of h,by rw[c.empty]⟩)
 |lst n h c=>cases e;exact .inl ⟨_,SqL.of h,by rw[c.empty]⟩
 |scr n h=>cases e;exact .inl ⟨_,.inl h,by simp⟩
 |dic n h l c=>cases e;exact .inr (.inr ⟨_,h,by rw[q9 l]⟩)
 | ref q=>
   rename_i n a
   unfold jK at e
   dsimp only at e
   split at e
   ·rename_i l hl
    cases e
    obtain⟨xs,h,c⟩:=j.obj n a _ q hl
    exact .inl ⟨_,SqL.of h,by rw[c.empty]⟩
   ·rename_i ks l hl
    cases e
    obtain⟨xs,h,z,c⟩:=j.obj n a _ q hl
    exact .inr (.inr ⟨_,h,by rw[q9 z]⟩)
   ·cases e
 |obj=>cases e
 |cls=>cases e
 |ty=>cases e
 |exn=>cases e
theorem bC(ha:DE X E a fa)(he:∀whole,isTrue a X.env whole=(do let v ←whole;standAt a.pos;holding [v] (truthy v))):DT X E a (fun δ=>fa δ>>=fun x=>rd (jK x)):=⟨PT.mono (pt_truth ha.h he) fun σ H Q h=>by
 obtain⟨ρ,δ,M,ev,j,g1⟩:=h
 refine⟨ρ,δ,M,ev,j,g1.bind fun ρ1 H1 M1 x dx e1 j1 c1 g2=>?_⟩
 obtain⟨k,e,q⟩:=g2.rd
 exact⟨k,Hg j1 c1 e,q ρ1 H1 k .refl j1 rfl⟩⟩
variable{ta tb:aa->DM Bool}
theorem b7(ha:DT X E a ta):DT X E (.UnaryOp .Not a pos) (fun δ=>ta δ>>=fun k=>pure (!k)):=⟨PT.mono (pt_not ha.h) fun σ H Q h=>by
 obtain⟨ρ,δ,M,ev,j,g1⟩:=h
 refine⟨ρ,δ,M,ev,j,g1.bind fun ρ1 H1 M1 x dx e1 j1 c1 g2=>?_⟩
 have c1:x=dx:=c1
 subst c1
 exact g2.pure ρ1 H1 _ .refl j1 rfl⟩
structure DW(X:Cx)(E:XK)(e:Expr)(f:aa->DM Bool):Prop where
 h:PW X e (tD X.mg E Bv f)
theorem PW.mono{e:Expr}{t t':TT}(h:PW X e t)(f:∀σ H Q,t' σ H Q->t σ H Q):PW X e t':=fun w pins s σ H Q I q=>h w pins s σ H Q I (f σ H Q q)
theorem DW.dt{e:Expr}(h:DW X E e ta):DT X E e ta:=⟨PW.pt h.h⟩
theorem CQ(ha:DT X E a ta):DW X E (.BoolOp .And [a] pos) ta:=⟨pw_and1 ha.h⟩
theorem iQ(ha:DT X E a ta):DW X E (.BoolOp .Or [a] pos) ta:=⟨pw_or1 ha.h⟩
variable{rest:List Expr}
theorem Et(ha:DT X E a ta)(hb:DW X E (.BoolOp .And (b::rest) pos) tb):DW X E (.BoolOp .And (a::b::rest) pos) (fun δ=>ta δ>>=fun k=>if k then tb δ else pure false):=⟨PW.mono (pw_and ha.h hb.h) fun σ H Q h=>by
 obtain⟨ρ,δ,M,ev,j,g1⟩:=h
 refine⟨ρ,δ,M,ev,j,g1.bind fun ρ1 H1 M1 x dx e1 j1 c1 g2=>?_⟩
 have c1:x=dx:=c1
 subst c1
 cases x with
 |true=>exact iteT ⟨ρ1,δ,M1,ev.mono e1,j1,g2⟩
 |false=>exact iteF (Go.pure (a:=false) g2 ρ1 H1 _ .refl j1 rfl)⟩
theorem jl(ha:DT X E a ta)(hb:DW X E (.BoolOp .Or (b::rest) pos) tb):DW X E (.BoolOp .Or (a::b::rest) pos) (fun δ=>ta δ>>=fun k=>if k then pure true else tb δ):=⟨PW.mono (pw_or ha.h hb.h) fun σ H Q h=>by
 obtain⟨ρ,δ,M,ev,j,g1⟩:=h
 refine⟨ρ,δ,M,ev,j,g1.bind fun ρ1 H1 M1 x dx e1 j1 c1 g2=>?_⟩
 have c1:x=dx:=c1
 subst c1
 cases x with
 |false=>exact iteF ⟨ρ1,δ,M1,ev.mono e1,j1,g2⟩
 |true=>exact iteT (Go.pure (a:=true) g2 ρ1 H1 _ .refl j1 rfl)⟩
theorem dJ{op:BoolOp}(ha:DE X E a fa):DE X E (.BoolOp op [a] pos) fa:=⟨pe_one ha.h⟩
theorem Go.isB{mg:Str->Option Value}{ρ:Rh}{H:Hp}{α β:Type}{rel:Rh->Hp->β->α->Prop}{Q:β->Hp->Prop}{d:D}{M:Mo}{f:Bool->DM α}(g:Go mg E rel Q ρ H (L3.eY d>>=f) M):∃k,d=.bl k∧Go mg E rel Q ρ H (f k) M:=by
 cases d with
 |bl k=>exact⟨k,rfl,g⟩
 |_=>obtain⟨r,e,_⟩:=g;cases e
theorem dI(ha:DE X E a fa)(hb:DE X E (.BoolOp .And (b::rest) pos) fb):DE X E (.BoolOp .And (a::b::rest) pos) (fun δ=>fa δ>>=fun x=>eY x>>=fun k=>if k then fb δ else pure (.bl false)):=⟨PE.mono (pe_and ha.h hb.h) fun σ H Q h=>by
 obtain⟨ρ,δ,M,ev,j,g1⟩:=h
 refine⟨ρ,δ,M,ev,j,g1.bind fun ρ1 H1 M1 x dx e1 j1 c1 g2=>?_⟩
 obtain⟨k,rfl,g3⟩:=Go.isB g2
 cases c1
 refine⟨k,rfl,?_⟩
 cases k with
 |true=>exact iteT ⟨ρ1,δ,M1,ev.mono e1,j1,g3⟩
 |false=>exact iteF (Go.pure (a:=D.bl false) g3 ρ1 H1 _ .refl j1 (.bl false))⟩
theorem xV(ha:DE X E a fa):DE X E (.UnaryOp .Not a pos) (fun δ=>fa δ>>=fun x=>eY x>>=fun k=>pure (.bl (!k))):=⟨PE.mono (pe_not ha.h) fun σ H Q h=>by
 obtain⟨ρ,δ,M,ev,j,g1⟩:=h
 refine⟨ρ,δ,M,ev,j,g1.bind fun ρ1 H1 M1 x dx e1 j1 c1 g2=>?_⟩
 obtain⟨k,rfl,g3⟩:=Go.isB g2
 cases c1
 exact⟨k,rfl,g3.pure ρ1 H1 _ .refl j1 (.bl _)⟩⟩
theorem Hq(hc:DT X E c ta)(ha:DE X E a fa)(hb:DE X E b fb):DE X E (.IfExp c a b pos) (fun δ=>ta δ>>=fun k=>if k then fa δ else fb δ):=⟨PE.mono (pe_ifExp hc.h ha.h hb.h) fun σ H Q h=>by
 obtain⟨ρ,δ,M,ev,j,g1⟩:=h
 refine⟨ρ,δ,M,ev,j,g1.bind fun ρ1 H1 M1 x dx e1 j1 c1 g2=>?_⟩
 have c1:x=dx:=c1
 subst c1
 cases x with
 |true=>exact iteT ⟨ρ1,δ,M1,ev.mono e1,j1,g2⟩
 |false=>exact iteF ⟨ρ1,δ,M1,ev.mono e1,j1,g2⟩⟩
theorem ak:DA X E [] (fun _=>pure []):=⟨⟨PA.mono Gw.h fun σ H Q h=>by
 obtain⟨ρ,δ,M,ev,j,g⟩:=h
 exact g.pure ρ H [] .refl j .nil⟩⟩
theorem aj{es:List Expr}{fs:aa->DM (List D)}(ha:DE X E a fa)(hr:DA X E es fs)(hs:notStar a=true:=by rfl):DA X E (a::es) (fun δ=>fa δ>>=fun x=>fs δ>>=fun xs=>pure (x::xs)):=⟨⟨PA.mono (Jk ha.h hr.h hs).h fun σ H Q h=>by
 obtain⟨ρ,δ,M,ev,j,g1⟩:=h
 exact⟨ρ,δ,M,ev,j,g1.bind fun ρ1 H1 M1 x dx e1 j1 c1 g2=>⟨ρ1,δ,M1,ev.mono e1,j1,g2.bind fun ρ2 H2 M2 xs dxs e2 j2 c2 g3=>g3.pure ρ2 H2 _ .refl j2 (.cons (c1.mono e2) c2)⟩⟩⟩⟩
def fO{α:Type}(l:List α):Bool:=decide (l.length≤sizeLine)
def tV(l:List D):DM D:=opt (if fO l then some (.tup l) else none)
def dR(l:List D):DM D:=opt (if fO l then some (.lst l) else none)
def cG(l:List D):DM D:=fun M=>if fO l then some (.ok (.ref M.length),M++[.lst l]) else none
theorem pq{l:List D}{d e:D}(h:(if fO l then some d else none)=some e):l.length≤sizeLine∧d=e:=by
 split at h
 ·cases h;exact⟨of_decide_eq_true ‹_›,rfl⟩
 ·cases h
variable{es:List Expr}{fs:aa->DM (List D)}
theorem bK{x1}(h:DA X E es fs):DE X E (.Tuple es x1 pos) (fun δ=>fs δ>>=tV):=⟨PE.mono (Dq h.h) fun σ H Q h=>by
 obtain⟨ρ,δ,M,ev,j,g1⟩:=h
 refine⟨ρ,δ,M,ev,j,g1.bind fun ρ1 H1 M1 xs dxs e1 j1 c1 g2=>?_⟩
 obtain⟨d,e,q⟩:=Go.opt g2
 obtain⟨hz,rfl⟩:=pq e
 exact⟨by rw[c1.len];exact hz,fun p hp=>q ρ1 _ _ (.lay hp) (j1.lay _ hp) (.tup (j1.fresh hp) upd_same (c1.mono (.lay hp)))⟩⟩
theorem bJ(h:DA X E es fs):DE X E (.List es pos) (fun δ=>fs δ>>=dR):=⟨PE.mono (uZ h.h) fun σ H Q h=>by
 obtain⟨ρ,δ,M,ev,j,g1⟩:=h
 refine⟨ρ,δ,M,ev,j,g1.bind fun ρ1 H1 M1 xs dxs e1 j1 c1 g2=>?_⟩
 obtain⟨d,e,q⟩:=Go.opt g2
 obtain⟨hz,rfl⟩:=pq e
 exact⟨by rw[c1.len];exact hz,fun p hp=>q ρ1 _ _ (.lay hp) (j1.lay _ hp) (.lst (j1.fresh hp) upd_same (c1.mono (.lay hp)))⟩⟩
theorem Go.cG{mg:Str->Option Value}{ρ:Rh}{H:Hp}{M:Mo}{Q:VK}{l:List D}{xs:List V}{p:Addr}(g:Go mg E (Cv mg) Q ρ H (cG l) M)(j:J mg ρ M H)(c:Cvs mg ρ H xs l)(hp:H p=none):l.length≤sizeLine∧Q (.ref p) (upd H p (.lst xs)):=by
 obtain⟨r,e,q⟩:=g
 unfold L3.cG at e
 split at e
 ·cases e
  refine⟨of_decide_eq_true ‹_›,?_⟩
  have x:Ext ρ H (ρ.put p) (upd H p (.lst xs)):=.put hp
  refine q _ _ _ x (j.put hp ⟨xs,upd_same,c.mono x⟩) (.ref ?_)
  show (ρ.st++[p])[_]?=_
  rw[←j.len];simp
 ·cases e
theorem Go.mkR_len{mg:Str->Option Value}{ρ:Rh}{H:Hp}{M:Mo}{Q:VK}{l:List D}(g:Go mg E (Cv mg) Q ρ H (L3.cG l) M):l.length≤sizeLine:=by
 obtain⟨r,e,q⟩:=g
 unfold L3.cG at e
 split at e
 ·exact of_decide_eq_true ‹_›
 ·cases e
theorem lQ(h:DA X E es fs):DE X E (.List es pos) (fun δ=>fs δ>>=cG):=⟨PE.mono (uZ h.h) fun σ H Q h=>by
 obtain⟨ρ,δ,M,ev,j,g1⟩:=h
 refine⟨ρ,δ,M,ev,j,g1.bind fun ρ1 H1 M1 xs dxs e1 j1 c1 g2=>?_⟩
 exact⟨by rw[c1.len];exact g2.mkR_len,fun p hp=>(g2.cG j1 c1 hp).2⟩⟩
end
section
variable{X:Cx}{E:XK}{mg:Str->Option Value}{ρ:Rh}{H:Hp}{M:Mo}
theorem Go.rdb{α β γ:Type}{rel:Rh->Hp->β->α->Prop}{Q:β->Hp->Prop}{f:Mo->Option γ}{k:γ->DM α}(g:Go mg E rel Q ρ H (L3.rd f>>=k) M):∃a,f M=some a∧Go mg E rel Q ρ H (k a) M:=by
 obtain⟨r,e,p⟩:=g
 have e:DM.bind _ _ M=some r:=e
 unfold DM.bind L3.rd at e
 cases h:f M with
 |none=>rw[h] at e;cases e
 |some a=>rw[h] at e;exact⟨a,rfl,r,e,p⟩
theorem bH.of{f:Value->Value->Sem Value}{r:R2}{g:D->D->Mo->Option D}(hr:OpR X f r)
  (h:∀x y H Q ρ M dx dy d,J X.mg ρ M H->Cv X.mg ρ H x dx->Cv X.mg ρ H y dy->g dx dy M=some d->(∀ρ' H' v,Ext ρ H ρ' H'->J X.mg ρ' M H'->Cv X.mg ρ' H' v d->Q v H')->r x y H Q):bH X E f (fun x y=>rd (g x y)):=by
 intro pins s σ H x y v u Q I rx ry q
 obtain⟨ρ,M,dx,dy,j,cx,cy,go⟩:=q
 obtain⟨d,e,p⟩:=go.rd
 exact hr pins s σ H x y v u Q I rx ry (h x y H Q ρ M dx dy d j cx cy e p)
def aN:D->Mo->Option (List D)
 |.lst l,_=>some l
 |.ref n,M=>match M[n]? with
   |some (.lst l)=>some l
   |_=>none
 |_,_=>none
theorem b8 (j:J mg ρ M H) {x:V}{d:D}{l:List D} (c:Cv mg ρ H x d) (e:aN d M=some l):∃ a xs,x=.ref a∧H a=some (.lst xs)∧Cvs mg ρ H xs l:=by
 cases c with
 |lst n h c=>cases e;exact⟨_,_,rfl,h,c⟩
 | ref q=>
   unfold aN at e
   dsimp only at e
   split at e
   ·rename_i l' hl
    cases e
    obtain⟨xs,h,c⟩:=j.obj _ _ _ q hl
    exact⟨_,_,rfl,h,c⟩
   ·cases e
 |_=>cases e
theorem J.notup(j:J mg ρ M H){p:Addr}{xs:List V}(h:H p=Option.some (HO.tup xs)):p∉ρ:=fun z=>by
 rcases z with z | z
 rotate_left
 ·obtain⟨_,ys,e⟩:=j.vol p z
  rw[h] at e;cases e
 obtain⟨n,hn⟩:=List.mem_iff_getElem?.mp z
 have lt:n<M.length:=by rw[←j.len];exact (List.getElem?_eq_some_iff.mp hn).1
 have c:=j.obj n p M[n] hn (List.getElem?_eq_getElem lt)
 cases hm:M[n] with
 |lst l=>rw[hm] at c;obtain⟨xs,e,_⟩:=c;rw[h] at e;cases e
 |dic ks l=>rw[hm] at c;obtain⟨xs,e,_⟩:=c;rw[h] at e;cases e
 |ins c' ns l=>rw[hm] at c;obtain⟨_,_,_,_,e,_⟩:=c;rw[h] at e;cases e
def Jx(l:List D):Option D:=if fO l then some (.tup l) else none
def Jg(l:List D):Option D:=if fO l then some (.lst l) else none
def jf:D->D->Mo->Option D
 |.int i,.int j,_=>some (.int (i+j))
 |.str a,.str b,_=>if a.length+b.length≤sizeLine then some (.str (a++b)) else none
 |.tup l,.tup m,_=>Jx (l++m)
 |x,y,M=>match aN x M,aN y M with
   |some l,some m=>Jg (l++m)
   |_,_=>none
theorem zK {x y d:D}{M:Mo} (h:jf x y M=some d):(∃ i j,x=.int i∧y=.int j∧d=.int (i + j))∨(∃ a b,x=.str a∧y=.str b∧a.length + b.length≤sizeLine∧d=.str (a++b))∨(∃ l m,x=.tup l∧y=.tup m∧l.length + m.length≤sizeLine∧d=.tup (l++m)) ∨
  ∃l m,aN x M=some l∧aN y M=some m∧l.length+m.length≤sizeLine∧d=.lst (l++m):=by
 unfold jf at h
 split at h
 ·cases h;exact .inl ⟨_,_,rfl,rfl,rfl⟩
 ·split at h
  ·cases h;exact .inr (.inl ⟨_,_,rfl,rfl,‹_›,rfl⟩)
  ·cases h
 ·obtain⟨hz,rfl⟩:=pq h
  rw[List.length_append] at hz
  exact .inr (.inr (.inl ⟨_,_,rfl,rfl,hz,rfl⟩))
 ·split at h
  ·rename_i l m h1 h2
   obtain⟨hz,rfl⟩:=pq h
   rw[List.length_append] at hz
   exact .inr (.inr (.inr ⟨l,m,h1,h2,hz,rfl⟩))
  ·cases h
theorem cg:bH X E (binaryOp .Add) (fun x y=>rd (jf x y)):=by
 refine bH.of (op_add.or (op_add_str.or (Dj.or op_cat))) fun x y H Q ρ M dx dy d j cx cy e q=>?_
 rcases zK e with ⟨i,k,rfl,rfl,rfl⟩ | ⟨i,k,rfl,rfl,hz,rfl⟩ | ⟨l,m,rfl,rfl,hz,rfl⟩ | ⟨l,m,h1,h2,hz,rfl⟩
 ·cases cx;cases cy
  exact .inl ⟨_,_,rfl,rfl,q ρ H _ .refl j (.int _)⟩
 ·cases cx;cases cy
  exact .inr (.inl ⟨_,_,rfl,rfl,hz,q ρ H _ .refl j (.str _)⟩)
 ·cases cx with | tup n1 a1 c1=>cases cy with | tup n2 a2 c2=>
  refine .inr (.inr (.inl ⟨_,_,_,_,rfl,rfl,a1,a2,by rw[c1.len,c2.len];exact hz,fun p H' S hp=>?_⟩))
  exact q ρ H' _ (.same S) (j.same S) (.tup ((j.same S).notup hp) hp ((c1.append c2).mono (.same S)))
 ·obtain⟨a1,x1,rfl,a2,c1⟩:=b8 j cx h1
  obtain⟨b1,y1,rfl,b2,c2⟩:=b8 j cy h2
  refine .inr (.inr (.inr ⟨_,_,_,_,rfl,rfl,a2,b2,by rw[c1.len,c2.len];exact hz,fun p hp=>?_⟩))
  exact q ρ _ _ (.lay hp) (j.lay _ hp) (.lst (j.fresh hp) upd_same ((c1.append c2).mono (.lay hp)))
def cD(C:Int->Int->Bool)(g:Int->Int->D):D->D->Mo->Option D
 |.int i,.int j,_=>if C i j then some (g i j) else none
 |_,_,_=>none
theorem qg{C:Int->Int->Bool}{g:Int->Int->D}{x y d:D}{M:Mo}(h:cD C g x y M=some d):∃i j,x=.int i∧y=.int j∧C i j=true∧d=g i j:=by
 unfold cD at h
 split at h
 ·split at h
  ·cases h;exact⟨_,_,rfl,rfl,‹_›,rfl⟩
  ·cases h
 ·cases h
theorem mq{f:Value->Value->Sem Value}{C:Int->Int->Bool}{g:Int->Int->Int}{P:Int->Int->Prop}(hr:OpR X f (rI P fun i j=>.int (g i j)))(hc:∀i j,C i j=true->P i j):bH X E f (fun x y=>rd (cD C (fun i j=>.int (g i j)) x y)):=
 bH.of hr fun x y H Q ρ M dx dy d j cx cy e q=>by
  obtain⟨i,k,rfl,rfl,hh,rfl⟩:=qg e
  cases cx;cases cy
  exact⟨_,_,rfl,rfl,hc _ _ hh,q ρ H _ .refl j (.int _)⟩
theorem Av{f:Value->Value->Sem Value}{g:Int->Int->Int}(hr:OpR X f (rI0 fun i j=>.int (g i j))):bH X E f (fun x y=>rd (cD (fun _ _=>true) (fun i j=>.int (g i j)) x y)):=
 bH.of hr fun x y H Q ρ M dx dy d j cx cy e q=>by
  obtain⟨i,k,rfl,rfl,hh,rfl⟩:=qg e
  cases cx;cases cy
  exact⟨_,_,rfl,rfl,q ρ H _ .refl j (.int _)⟩
theorem mj{f:Value->Value->Sem Value}{g:Int->Int->Bool}(hr:OpR X f (rI0 fun i j=>.bl (g i j))):bH X E f (fun x y=>rd (cD (fun _ _=>true) (fun i j=>.bl (g i j)) x y)):=
 bH.of hr fun x y H Q ρ M dx dy d j cx cy e q=>by
  obtain⟨i,k,rfl,rfl,hh,rfl⟩:=qg e
  cases cx;cases cy
  exact⟨_,_,rfl,rfl,q ρ H _ .refl j (.bl _)⟩
abbrev wZ:D->D->Mo->Option D:=cD (fun _ _=>true) fun i j=>.int (i-j)
theorem iR:bH X E (binaryOp .Sub) (fun x y=>rd (wZ x y)):=Av op_sub
def eV(i j:Int):Bool:=!(decide (Builtin.Int.intBits i > shortFactorBits)&&decide (Builtin.Int.intBits j > shortFactorBits)&&Builtin.Int.intTooBig (Builtin.Int.intBits i+Builtin.Int.intBits j))
theorem eV.ok{i j:Int}(h:eV i j=true):IntMulOk i j:=fun z=>by
 unfold eV at h
 rw[z] at h;cases h
abbrev lq:D->D->Mo->Option D:=cD eV fun i j=>.int (i*j)
theorem gj:bH X E (binaryOp .Mult) (fun x y=>rd (lq x y)):=mq Dk fun i j h=>eV.ok h
def lR(i j:Int):Bool:=decide (0<j)&&!Builtin.divisionGoesByPylong i j
theorem Aw:OpR X (binaryOp .FloorDiv) (rI (fun i j=>lR i j=true) fun i j=>.int (i / j)):=opI fun i j _ _ _ _ _ hc q=>by
 unfold lR at hc
 have h0:0<j:=by
  have:=(Bool.and_eq_true _ _).mp hc
  exact of_decide_eq_true this.1
 have h1:Builtin.divisionGoesByPylong i j=false:=by
  have:=(Bool.and_eq_true _ _).mp hc
  simpa using this.2
 have e:i.fdiv j=i / j:=Int.fdiv_eq_ediv_of_nonneg i (Int.le_of_lt h0)
 exact floordiv_int (Int.ne_of_gt h0) (by rw[e];exact q) (.inl h1)
abbrev jq:D->D->Mo->Option D:=cD lR fun i j=>.int (i / j)
theorem gJ:bH X E (binaryOp .FloorDiv) (fun x y=>rd (jq x y)):=mq Aw fun i j h=>h
abbrev gH:D->D->Mo->Option D:=cD (fun _ j=>decide (0<j)) fun i j=>.int (i%j)
theorem dB:bH X E (binaryOp .Mod) (fun x y=>rd (gH x y)):=mq op_mod fun i j h=>of_decide_eq_true h
def BV(i j:Int):Bool:=decide (0≤j∧j≤1000000∧i.natAbs<2^64)
abbrev tZ:D->D->Mo->Option D:=cD BV fun i j=>.int (i^j.toNat)
theorem my:bH X E (binaryOp .Pow) (fun x y=>rd (tZ x y)):=mq op_pow fun i j h=>of_decide_eq_true (p:=0≤j∧j≤1000000∧i.natAbs<2^64) h
abbrev BJ:D->D->Mo->Option D:=cD (fun _ _=>true) fun i j=>.bl (decide (i<j))
abbrev o8:D->D->Mo->Option D:=cD (fun _ _=>true) fun i j=>.bl (decide (i≤j))
abbrev mU:D->D->Mo->Option D:=cD (fun _ _=>true) fun i j=>.bl (decide (j<i))
abbrev Bx:D->D->Mo->Option D:=cD (fun _ _=>true) fun i j=>.bl (decide (j≤i))
theorem ph:bH X E (compareOp .Lt) (fun x y=>rd (BJ x y)):=mj op_lt
theorem dU:bH X E (compareOp .LtE) (fun x y=>rd (o8 x y)):=mj op_le
theorem yQ:bH X E (compareOp .Gt) (fun x y=>rd (mU x y)):=mj op_gt
theorem tX:bH X E (compareOp .GtE) (fun x y=>rd (Bx x y)):=mj op_ge
def eqP(x y:D):Option Bool:=match toPy x,toPy y with
 |some p,some q=>if p.canLay0&&q.canLay0&&decide (p.depth≤60) then some (PyData.eqv p q) else none
 |_,_=>none
def eqB:D->D->Option Bool
 |.str a,.str b=>some (decide (a=b))
 |x,y=>eqP x y
def dM(x y:D)(_:Mo):Option D:=(eqB x y).map .bl
def lu(x y:D)(_:Mo):Option D:=(eqB x y).map fun b=>.bl (!b)
theorem Ew {x y:D}{b:Bool} (h:eqP x y=some b):∃ p q,toPy x=some p∧toPy y=some q∧p.canLay0=true∧q.canLay0=true∧p.depth≤60∧b=PyData.eqv p q:=by
 unfold eqP at h
 split at h
 ·rename_i p q h1 h2
  split at h
  ·rename_i hc
   cases h
   simp only[Bool.and_eq_true,decide_eq_true_eq] at hc
   exact⟨p,q,h1,h2,hc.1.1,hc.1.2,hc.2,rfl⟩
  ·cases h
 ·cases h
theorem Eu{x y:D}{b:Bool}(h:eqB x y=some b):(∃a c,x=.str a∧y=.str c∧b=decide (a=c))∨eqP x y=some b:=by
 unfold eqB at h
 split at h
 ·cases h;exact .inl ⟨_,_,rfl,rfl,rfl⟩
 ·exact .inr h
theorem DY{a c:Str}:decide (V.str a=V.str c)=decide (a=c):=by
 rw[Bool.eq_iff_iff];simp
theorem uY{f:Value->Value->Sem Value}{n:Bool}(h1:OpR X f (fun x y H Q=>scal x y=true∧Q (.bl (n ^^ decide (x=y))) H))(h2:OpR X f (Bf X.K n)):bH X E f (fun x y=>rd fun _=>(eqB x y).map fun b=>.bl (n ^^ b)):=by
 intro pins s σ H x y v u Q I rx ry q
 obtain⟨ρ,M,dx,dy,j,cx,cy,g⟩:=q
 obtain⟨d,e,q⟩:=Go.rd g
 obtain⟨b,hb,rfl⟩:=Option.map_eq_some_iff.mp e
 rcases Eu hb with ⟨a,c,rfl,rfl,rfl⟩ | hb
 ·cases cx;cases cy
  refine h1 pins s σ H _ _ v u Q I rx ry ⟨rfl,?_⟩
  rw[DY]
  exact q ρ H _ .refl j (.bl _)
 ·obtain⟨p,p',k1,k2,h3,h4,h5,rfl⟩:=Ew hb
  refine h2 pins s σ H x y v u Q I rx ry ⟨p,p',(cx.repF k1).toRep,(cy.repF k2).toRep,h3,h4,h5,?_⟩
  have:=q ρ H _ .refl j (.bl _)
  cases n
  ·simpa using this
  ·simpa using this
theorem eQ(hu:X.A.units+64<cLine):bH X E (compareOp .Eq) (fun x y=>rd (dM x y)):=by
 have h:=uY (X:=X) (E:=E) (n:=false) (f:=compareOp .Eq) (fun pins s σ H x y v u Q I rx ry q=>op_eq (X:=X) pins s σ H x y v u Q I rx ry ⟨q.1,by simpa using q.2⟩) (Gf hu)
 have e:(fun x y=>(rd (dM x y):DM D))=fun x y=>rd fun _=>(eqB x y).map fun b=>.bl (false ^^ b):=by
  funext x y
  show rd _=rd _
  congr 1
  funext M
  simp only[dM,Bool.false_xor,Bool.true_xor]
 rw[e];exact h
theorem dC(hu:X.A.units+64<cLine):bH X E (compareOp .NotEq) (fun x y=>rd (lu x y)):=by
 have h:=uY (X:=X) (E:=E) (n:=true) (f:=compareOp .NotEq) (fun pins s σ H x y v u Q I rx ry q=>op_ne (X:=X) pins s σ H x y v u Q I rx ry ⟨q.1,by simpa using q.2⟩) (Gg hu)
 have e:(fun x y=>(rd (lu x y):DM D))=fun x y=>rd fun _=>(eqB x y).map fun b=>.bl (true ^^ b):=by
  funext x y
  show rd _=rd _
  congr 1
  funext M
  simp only[lu,Bool.false_xor,Bool.true_xor]
 rw[e];exact h
def wD:D->D->Mo->Option D
 |.tup [c],.int k,_=>if decide (1≤k∧k≤1000) then some (.tup (List.replicate k.toNat c)) else none
 |_,_,_=>none
theorem Cvs.rep{v:V}{d:D}(c:Cv mg ρ H v d):∀n,Cvs mg ρ H (List.replicate n v) (List.replicate n d)
 |0=>.nil
 |n+1=>.cons c (Cvs.rep c n)
theorem Dm:bH X E (binaryOp .Mult) (fun x y=>rd (wD x y)):=bH.of Dn fun x y H Q ρ M dx dy d j cx cy e q=>by
 unfold wD at e
 split at e
 ·split at e
  ·rename_i hk
   have hk:=of_decide_eq_true hk
   cases e
   cases cy
   cases cx with | tup n a c=>cases c with | cons c1 c2=>
   cases c2
   refine⟨_,_,_,rfl,rfl,a,hk.1,hk.2,fun p H' S hp=>?_⟩
   exact q ρ H' _ (.same S) (j.same S) (.tup ((j.same S).notup hp) hp ((Cvs.rep c1 _).mono (.same S)))
  ·cases e
 ·cases e
def wM(l:List D)(k:Int):Option (List D):=if decide (-(2^63)≤k∧k<2^63∧l.length*k.toNat≤sizeLine) then some (List.replicate k.toNat l).flatten else none
theorem Cvs.reps{vs:List V}{ds:List D}(c:Cvs mg ρ H vs ds):∀n,Cvs mg ρ H (List.replicate n vs).flatten (List.replicate n ds).flatten
 |0=>.nil
 |n+1=>by rw[List.replicate_succ,List.replicate_succ,List.flatten_cons,List.flatten_cons];exact c.append (Cvs.reps c n)
def tW(x y:D)(M:Mo):Option (List D):=match aN x M,y with
 |some l,.int k=>wM l k
 |_,_=>none
theorem Df {x y:D}{l:List D} (h:tW x y M=some l):∃ m k,aN x M=some m∧y=.int k∧(-(2 ^ 63)≤k∧k<2 ^ 63∧m.length * k.toNat≤sizeLine)∧l=(List.replicate k.toNat m).flatten:=by
 unfold tW at h
 split at h
 ·rename_i m k h1
  unfold wM at h
  split at h
  ·rename_i hk
   cases h
   exact⟨m,k,h1,rfl,of_decide_eq_true hk,rfl⟩
  ·cases h
 ·cases h
def FQ(x y:D):DM D:=rd (tW x y)>>=cG
theorem Dl:bH X E (binaryOp .Mult) FQ:=by
 intro pins s σ H x y v u Q I rx ry q
 obtain⟨ρ,M,dx,dy,j,cx,cy,go⟩:=q
 obtain⟨l,e1,g⟩:=Go.rdb go
 obtain⟨m,k,h1,rfl,⟨h2,h3,h4⟩,rfl⟩:=Df e1
 obtain⟨a,xs,rfl,ha,c⟩:=b8 j cx h1
 cases cy
 exact op_rep (X:=X) pins s σ H _ _ v u Q I rx ry ⟨_,_,_,rfl,rfl,ha,h2,h3,by rw[c.len];exact h4,fun p hp=>(g.cG j (Cvs.reps c _) hp).2⟩
def wF:D->Mo->Option D
 |.int i,_=>some (.int (-i))
 |_,_=>none
theorem xU{a:Expr}{fa:aa->DM D}{pos:Pos}(ha:DE X E a fa):DE X E (.UnaryOp .USub a pos) (fun δ=>fa δ>>=fun x=>rd (wF x)):=⟨PE.mono (pe_un un_neg ha.h) fun σ H Q h=>by
 obtain⟨ρ,δ,M,ev,j,g1⟩:=h
 refine⟨ρ,δ,M,ev,j,g1.bind fun ρ1 H1 M1 x dx e1 j1 c1 g2=>?_⟩
 obtain⟨d,e,q⟩:=g2.rd
 unfold wF at e
 split at e
 ·cases e;cases c1
  exact⟨_,rfl,q ρ1 H1 _ .refl j1 (.int _)⟩
 ·cases e⟩
theorem Cvs.at{vs:List V}{ds:List D}{i:Int}{d:D}(c:Cvs mg ρ H vs ds)(h:atI ds i=some d):∃v,atI vs i=some v∧Cv mg ρ H v d:=by
 unfold atI at h ⊢
 rw[c.len]
 obtain⟨n,hn,e⟩:=Option.bind_eq_some_iff.mp h
 obtain⟨v,e2,cv⟩:=c.get e
 exact⟨v,by rw[hn];exact e2,cv⟩
def fu:D->D->Mo->Option D
 |.tup l,.int i,_=>atI l i
 |.scr l,.int i,_=>(atI l i).map .int
 |x,.int i,M=>(aN x M).bind fun l=>atI l i
 |_,_,_=>none
def Io(X:Cx)(E:XK)(g:D->D->DM D):Prop:=IxR X (rD X.mg E g)
theorem cF:Io X E (fun x y=>rd (fu x y)):=by
 intro value slice pins s σ H x y v u Q I rx ry q hs
 obtain⟨ρ,M,dx,dy,j,cx,cy,go⟩:=q
 obtain⟨d,e,p⟩:=go.rd
 unfold fu at e
 split at e
 ·cases cy
  cases cx with | tup n a c=>
  obtain⟨w,e2,cw⟩:=c.at e
  exact ix_tup (X:=X) value slice pins s σ H _ _ v u Q I rx ry ⟨_,_,_,_,rfl,rfl,SqT.of a,e2,p ρ H _ .refl j cw⟩ hs
 ·rename_i l i
  cases cy
  cases cx with | scr n a=>
  obtain⟨z,e1,rfl⟩:=Option.map_eq_some_iff.mp e
  have e2:atI (l.map V.int) i=some (V.int z):=by
   unfold atI at e1 ⊢
   rw[List.length_map]
   obtain⟨n,hn,e⟩:=Option.bind_eq_some_iff.mp e1
   rw[hn]
   show (List.map V.int _)[n]?=_
   rw[List.getElem?_map,e];rfl
  exact ix_list (X:=X) value slice pins s σ H _ _ v u Q I rx ry ⟨_,_,_,_,rfl,rfl,.inl a,e2,p ρ H _ .refl j (.int z)⟩ hs
 ·cases cy
  obtain⟨l,h1,e1⟩:=Option.bind_eq_some_iff.mp e
  obtain⟨a,xs,rfl,ha,c⟩:=b8 j cx h1
  obtain⟨w,e2,cw⟩:=c.at e1
  exact ix_list (X:=X) value slice pins s σ H _ _ v u Q I rx ry ⟨_,_,_,_,rfl,rfl,SqL.of ha,e2,p ρ H _ .refl j cw⟩ hs
 ·cases e
theorem bM{a b:Expr}{fa fb:aa->DM D}{pos:Pos}{g:D->D->DM D}(hi:Io X E g)(ha:DE X E a fa)(hb:DE X E b fb)(hs:PlainIx b:=by exact fun _ _=>rfl):DE X E (.Subscript a b pos) (fun δ=>fa δ>>=fun x=>fb δ>>=fun y=>g x y):=
 ⟨PE.mono (pe_ix hi ha.h hb.h hs) fun σ H Q h=>uT (fun _ _ _ _ z=>z) h⟩
def Ip:D->DM (Option Int)
 |.int i=>pure (some i)
 |_=>stuck
def cutD(xs:List D)(lo hi:Option Int):List D:=(xs.drop (HT.sIx xs.length 0 lo)).take (HT.sIx xs.length xs.length hi-HT.sIx xs.length 0 lo)
theorem Cvs.cut{vs:List V}{ds:List D}(c:Cvs mg ρ H vs ds)(lo hi:Option Int):Cvs mg ρ H (cutV vs lo hi) (cutD ds lo hi):=by
 unfold cutV cutD
 rw[c.len]
 exact (c.drop _).take _
structure DP(X:Cx)(E:XK)(e:Option Expr)(f:aa->DM (Option Int)):Prop where
 h:PO X e (tD X.mg E (fun _ _ (b a:Option Int)=>b=a) f)
theorem PO.mono{e:Option Expr}{t t':TO}(h:PO X e t)(f:∀σ H Q,t' σ H Q->t σ H Q):PO X e t':=fun pins s σ H Q I q=>h pins s σ H Q I (f σ H Q q)
theorem CK:DP X E none (fun _=>pure none):=⟨PO.mono po_none fun σ H Q h=>by
 obtain⟨ρ,δ,M,ev,j,g⟩:=h
 exact g.pure ρ H none .refl j rfl⟩
theorem CN{a:Expr}{fa:aa->DM D}(ha:DE X E a fa):DP X E (some a) (fun δ=>fa δ>>=Ip):=⟨PO.mono (po_some ha.h) fun σ H Q h=>by
 obtain⟨ρ,δ,M,ev,j,g1⟩:=h
 refine⟨ρ,δ,M,ev,j,g1.bind fun ρ1 H1 M1 x dx e1 j1 c1 g2=>?_⟩
 cases dx with
 |int i=>cases c1;exact⟨i,rfl,Go.pure (a:=some i) g2 ρ1 H1 _ .refl j1 rfl⟩
 |_=>obtain⟨r,e,_⟩:=g2;cases e⟩
def zx(lo hi:Option Int):D->Mo->Option D
 |.tup l,_=>some (.tup (cutD l lo hi))
 |x,M=>(aN x M).map fun l=>.lst (cutD l lo hi)
theorem Ju:SlR X (fun x lo hi H Q=>∃ρ M dx d,J X.mg ρ M H∧Cv X.mg ρ H x dx∧zx lo hi dx M=some d∧∀ρ' H' v,Ext ρ H ρ' H'->J X.mg ρ' M H'->Cv X.mg ρ' H' v d->Q v H'):=by
 intro pins s σ H x v vl vu lo hi sl Q I rx hs pl pu h
 obtain⟨ρ,M,dx,d,j,c,e,q⟩:=h
 unfold zx at e
 split at e
 ·cases e
  cases c with | tup n a c=>
  refine DQ (X:=X) pins s σ H _ v vl vu lo hi sl Q I rx hs pl pu ⟨_,_,rfl,a,fun p H' S hp=>?_⟩
  exact q ρ H' _ (.same S) (j.same S) (.tup ((j.same S).notup hp) hp ((c.cut lo hi).mono (.same S)))
 ·obtain⟨l,h1,rfl⟩:=Option.map_eq_some_iff.mp e
  obtain⟨a,xs,rfl,ha,c⟩:=b8 j c h1
  refine sl_list (X:=X) pins s σ H _ v vl vu lo hi sl Q I rx hs pl pu ⟨_,_,rfl,SqL.of ha,fun p hp=>?_⟩
  exact q ρ _ _ (.lay hp) (j.lay _ hp) (.lst (j.fresh hp) upd_same ((c.cut lo hi).mono (.lay hp)))
theorem Ab{a:Expr}{fa:aa->DM D}{lo hi:Option Expr}{fl fh:aa->DM (Option Int)}{p2 pos:Pos}(ha:DE X E a fa)(hl:DP X E lo fl)(hh:DP X E hi fh) :
  DE X E (.Subscript a (.Slice lo hi none p2) pos) (fun δ=>fa δ>>=fun x=>fl δ>>=fun l=>fh δ>>=fun h=>rd (zx l h x)):=⟨PE.mono (pe_slice Ju ha.h hl.h hh.h) fun σ H Q h=>by
 obtain⟨ρ,δ,M,ev,j,g1⟩:=h
 refine⟨ρ,δ,M,ev,j,g1.bind fun ρ1 H1 M1 x dx e1 j1 c1 g2=>⟨ρ1,δ,M1,ev.mono e1,j1,g2.bind fun ρ2 H2 M2 l dl e2 j2 c2 g3=>⟨ρ2,δ,M2,(ev.mono e1).mono e2,j2,g3.bind fun ρ3 H3 M3 h dh e3 j3 c3 g4=>?_⟩⟩⟩
 have c2:l=dl:=c2
 have c3:h=dh:=c3
 subst c2 c3
 obtain⟨d,e,q⟩:=g4.rd
 exact⟨ρ3,M3,dx,d,j3,(c1.mono e2).mono e3,e,q⟩⟩
end
inductive Fl where
 |nx (δ:aa) | rt (d:D) | bk (δ:aa) | ct (δ:aa)
def lN(mg:Str->Option Value)(ρ:Rh)(H:Hp)(D:Ends)(E:XK):R Fl×Mo->Prop
 |(.ok (.nx δ'),M')=>∀ρ' H' σ',Ext ρ H ρ' H'->J mg ρ' M' H'->Ev mg ρ' H' σ' δ'->D.nx σ' H'
 |(.ok (.bk δ'),M')=>∀ρ' H' σ',Ext ρ H ρ' H'->J mg ρ' M' H'->Ev mg ρ' H' σ' δ'->D.bk σ' H'
 |(.ok (.ct δ'),M')=>∀ρ' H' σ',Ext ρ H ρ' H'->J mg ρ' M' H'->Ev mg ρ' H' σ' δ'->D.ct σ' H'
 |(.ok (.rt d),M')=>∀ρ' H' v,Ext ρ H ρ' H'->J mg ρ' M' H'->Cv mg ρ' H' v d->D.rt v H'
 |(.exc c,M')=>∀ρ' H' C,Ext ρ H ρ' H'->J mg ρ' M' H'->mg c=some (.ref C)->E (.ref C) none H'
def aR(mg:Str->Option Value)(E:XK)(D:Ends)(ρ:Rh)(H:Hp)(m:DM Fl)(M:Mo):Prop:=∃r,m M=some r∧lN mg ρ H D E r
section
variable{mg:Str->Option Value}{ρ ρ':Rh}{H H':Hp}{E:XK}{α β:Type}{rel:Rh->Hp->β->α->Prop}{D D':Ends}{Q':β->Hp->Prop}{M:Mo}
theorem lN.mono{r:R Fl×Mo}(e:Ext ρ H ρ' H')(h:lN mg ρ H D E r):lN mg ρ' H' D E r:=by
 obtain⟨r,M'⟩:=r
 cases r with
 |ok a=>cases a<;>exact fun ρ2 H2 b e2 j c=>h ρ2 H2 b (e.trans e2) j c
 |exc c=>exact fun ρ2 H2 C e2 j m=>h ρ2 H2 C (e.trans e2) j m
theorem aR.bind{m:DM α}{k:α->DM Fl}(g:aR mg E D ρ H (m>>=k) M)
  (f:∀ρ1 H1 M1 b a,Ext ρ H ρ1 H1->J mg ρ1 M1 H1->rel ρ1 H1 b a->aR mg E D ρ1 H1 (k a) M1->Q' b H1):Go mg E rel Q' ρ H m M:=by
 obtain⟨r,e,p⟩:=g
 have e:DM.bind m k M=some r:=e
 unfold DM.bind at e
 split at e
 ·cases e
 ·rename_i c M' em
  cases e
  exact⟨_,em,p⟩
 ·rename_i a M' em
  exact⟨_,em,fun ρ1 H1 b x j c=>f ρ1 H1 M' b a x j c ⟨r,e,p.mono x⟩⟩
theorem aR.pure{a:Fl}(g:aR mg E D ρ H (pure a) M):lN mg ρ H D E (.ok a,M):=by
 obtain⟨r,e,p⟩:=g
 have e:some (R.ok a,M)=some r:=e
 cases e
 exact p
def jH(f g:aa->DM Fl):aa->DM Fl:=fun δ=>f δ>>=fun r=>match r with
 |.nx δ'=>g δ'
 |r=>Pure.pure r
theorem aR.seq{f:DM Fl}{k:Fl->DM Fl}(g:aR mg E D ρ H (f>>=k) M)
  (hn:∀δ' ρ1 H1 M1 σ1,Ext ρ H ρ1 H1->J mg ρ1 M1 H1->Ev mg ρ1 H1 σ1 δ'->aR mg E D ρ1 H1 (k (.nx δ')) M1->D'.nx σ1 H1)
  (hb:∀δ' ρ1 H1 M1 σ1,Ext ρ H ρ1 H1->J mg ρ1 M1 H1->Ev mg ρ1 H1 σ1 δ'->aR mg E D ρ1 H1 (k (.bk δ')) M1->D'.bk σ1 H1)
  (hc:∀δ' ρ1 H1 M1 σ1,Ext ρ H ρ1 H1->J mg ρ1 M1 H1->Ev mg ρ1 H1 σ1 δ'->aR mg E D ρ1 H1 (k (.ct δ')) M1->D'.ct σ1 H1)
  (hr:∀d ρ1 H1 M1 v,Ext ρ H ρ1 H1->J mg ρ1 M1 H1->Cv mg ρ1 H1 v d->aR mg E D ρ1 H1 (k (.rt d)) M1->D'.rt v H1):aR mg E D' ρ H f M:=by
 obtain⟨r,e,p⟩:=g
 have e:DM.bind f k M=some r:=e
 unfold DM.bind at e
 split at e
 ·cases e
 ·rename_i c M' em
  cases e
  exact⟨_,em,p⟩
 ·rename_i a M' em
  refine⟨_,em,?_⟩
  cases a with
  |nx δ'=>exact fun ρ1 H1 b x j c=>hn δ' ρ1 H1 M' b x j c ⟨r,e,p.mono x⟩
  |bk δ'=>exact fun ρ1 H1 b x j c=>hb δ' ρ1 H1 M' b x j c ⟨r,e,p.mono x⟩
  |ct δ'=>exact fun ρ1 H1 b x j c=>hc δ' ρ1 H1 M' b x j c ⟨r,e,p.mono x⟩
  |rt d=>exact fun ρ1 H1 b x j c=>hr d ρ1 H1 M' b x j c ⟨r,e,p.mono x⟩
end
def tS(mg:Str->Option Value)(E:XK)(f:aa->DM Fl):TS:=fun D σ H=>∃ρ δ M,Ev mg ρ H σ δ∧J mg ρ M H∧aR mg E D ρ H (f δ) M
structure DS(X:Cx)(E:XK)(st:Stmt)(f:aa->DM Fl):Prop where
 h:PS X st (tS X.mg E f)
structure DSs(X:Cx)(E:XK)(st:List Stmt)(f:aa->DM Fl):Prop where
 h:PSs X st (tS X.mg E f)
theorem PS.mono{X:Cx}{e:Stmt}{t t':TS}(h:PS X e t)(f:∀D σ H,t' D σ H->t D σ H):PS X e t':=fun pins s σ H D I q=>h pins s σ H D I (f D σ H q)
theorem PSs.mono{X:Cx}{e:List Stmt}{t t':TS}(h:PSs X e t)(f:∀D σ H,t' D σ H->t D σ H):PSs X e t':=fun pins s σ H D I q=>h pins s σ H D I (f D σ H q)
section
variable{X:Cx}{E:XK}{st:Stmt}{rest:List Stmt}{f g:aa->DM Fl}{e:Expr}{fe:aa->DM D}{pos:Pos}
theorem bh:DSs X E [] (fun δ=>pure (.nx δ)):=⟨PSs.mono pss_nil fun D σ H h=>by
 obtain⟨ρ,δ,M,ev,j,g⟩:=h
 exact g.pure ρ H σ .refl j ev⟩
theorem aA(h:DS X E st f):DSs X E [st] f:=⟨pss_one h.h⟩
theorem au(h1:DS X E st f)(h2:DSs X E rest g):DSs X E (st::rest) (jH f g):=⟨PSs.mono (pss_cons h1.h h2.h) fun D σ H h=>by
 obtain⟨ρ,δ,M,ev,j,g1⟩:=h
 refine⟨ρ,δ,M,ev,j,g1.seq (fun δ' ρ1 H1 M1 σ1 e1 j1 ev1 g2=>⟨ρ1,δ',M1,ev1,j1,g2⟩) (fun δ' ρ1 H1 M1 σ1 e1 j1 ev1 g2=>?_) (fun δ' ρ1 H1 M1 σ1 e1 j1 ev1 g2=>?_) (fun d ρ1 H1 M1 v e1 j1 c1 g2=>?_)⟩
 ·exact aR.pure g2 ρ1 H1 σ1 .refl j1 ev1
 ·exact aR.pure g2 ρ1 H1 σ1 .refl j1 ev1
 ·exact aR.pure g2 ρ1 H1 v .refl j1 c1⟩
theorem aJ(he:DE X E e fe):DS X E (.Return (some e) pos) (fun δ=>fe δ>>=fun d=>pure (.rt d)):=⟨PS.mono (L2.ps_ret he.h) fun D σ H h=>by
 obtain⟨ρ,δ,M,ev,j,g1⟩:=h
 exact⟨ρ,δ,M,ev,j,g1.bind fun ρ1 H1 M1 v d e1 j1 c1 g2=>g2.pure ρ1 H1 v .refl j1 c1⟩⟩
theorem gh(he:DE X E e fe)(hs:swapsWith e none pos.line X.env=pure false:=by rfl):DS X E (.Expr e pos) (fun δ=>fe δ>>=fun _=>pure (.nx δ)):=⟨PS.mono (ps_expr he.h hs) fun D σ H h=>by
 obtain⟨ρ,δ,M,ev,j,g1⟩:=h
 exact⟨ρ,δ,M,ev,j,g1.bind fun ρ1 H1 M1 v d e1 j1 c1 g2=>g2.pure ρ1 H1 σ .refl j1 (ev.mono e1)⟩⟩
theorem aV{i:Nat}{x:Str}{pos':Pos}(hN:X.N.Nodup)(hi:X.N[i]?=some x)(hx:Loc X.env.scope x)(he:DE X E e fe)(hs:swapsWith e (some (.Name x pos')) pos.line X.env=pure false:=by rfl)(hf:X.fn x=true∨X.env.scope.names.lookup x=some .local:=by first | exact .inl rfl | exact .inr rfl | assumption) :
  DS X E (.Assign [.Name x pos'] e pos) (fun δ=>fe δ>>=fun d=>pure (.nx (δ.set i (some d)))):=⟨PS.mono (ps_set hN hi hx he.h hs hf) fun D σ H h=>by
 obtain⟨ρ,δ,M,ev,j,g1⟩:=h
 exact⟨ρ,δ,M,ev,j,g1.bind fun ρ1 H1 M1 v d e1 j1 c1 g2=>g2.pure ρ1 H1 _ .refl j1 ((ev.mono e1).set c1)⟩⟩
theorem bN{c:Expr}{a b:List Stmt}{tc:aa->DM Bool}(hc:DT X E c tc)(ha:DSs X E a f)(hb:DSs X E b g):DS X E (.If c a b pos) (fun δ=>tc δ>>=fun k=>if k then f δ else g δ):=⟨PS.mono (L2.ps_if hc.h ha.h hb.h) fun D σ H h=>by
 obtain⟨ρ,δ,M,ev,j,g1⟩:=h
 refine⟨ρ,δ,M,ev,j,g1.bind fun ρ1 H1 M1 x dx e1 j1 c1 g2=>?_⟩
 have c1:x=dx:=c1
 subst c1
 cases x with
 |true=>exact iteT ⟨ρ1,δ,M1,ev.mono e1,j1,g2⟩
 |false=>exact iteF ⟨ρ1,δ,M1,ev.mono e1,j1,g2⟩⟩
def tG(mg:Str->Option Value)(E:XK)(fg:D->aa->DM aa):TG:=fun v σ H Q=>∃ρ δ M d,Ev mg ρ H σ δ∧J mg ρ M H∧Cv mg ρ H v d∧Go mg E (Ev mg) Q ρ H (fg d δ) M
def JZ(mg:Str->Option Value)(E:XK)(fg:List D->aa->DM aa):TGs:=fun vs σ H Q=>∃ρ δ M ds,Ev mg ρ H σ δ∧J mg ρ M H∧Cvs mg ρ H vs ds∧Go mg E (Ev mg) Q ρ H (fg ds δ) M
structure DG(X:Cx)(E:XK)(tg:Expr)(fg:D->aa->DM aa):Prop where
 h:PG X tg (tG X.mg E fg)
structure DGs(X:Cx)(E:XK)(tg:List Expr)(fg:List D->aa->DM aa):Prop where
 h:PGs X tg (JZ X.mg E fg)
theorem PG.mono{tg:Expr}{t t':TG}(h:PG X tg t)(f:∀v σ H Q,t' v σ H Q->t v σ H Q):PG X tg t':=fun pins s σ H v u Q I r q=>h pins s σ H v u Q I r (f v σ H Q q)
theorem PGs.mono{tg:List Expr}{t t':TGs}(h:PGs X tg t)(f:∀v σ H Q,t' v σ H Q->t v σ H Q):PGs X tg t':=fun pins s σ H v u Q I r q=>h pins s σ H v u Q I r (f v σ H Q q)
def gN(i:Nat):D->aa->DM aa:=fun d δ=>pure (δ.set i (some d))
theorem aU{i:Nat}{x:Str}(hN:X.N.Nodup)(hi:X.N[i]?=some x)(hx:Loc X.env.scope x)(hf:X.fn x=true∨X.env.scope.names.lookup x=some .local:=by first | exact .inl rfl | exact .inr rfl | assumption):DG X E (.Name x pos) (gN i):=
 ⟨PG.mono (pg_name hN hi hx hf) fun v σ H Q h=>by
  obtain⟨ρ,δ,M,d,ev,j,c,g1⟩:=h
  exact Go.pure g1 ρ H _ .refl j (ev.set c)⟩
def lW:List D->aa->DM aa
 |[],δ=>pure δ
 |_,_=>stuck
def dN(f:D->aa->DM aa)(fs:List D->aa->DM aa):List D->aa->DM aa
 |d::l,δ=>f d δ>>=fun δ'=>fs l δ'
 |_,_=>stuck
theorem gf:DGs X E [] lW:=⟨PGs.mono pgs_nil fun vs σ H Q h=>by
 obtain⟨ρ,δ,M,ds,ev,j,c,g1⟩:=h
 cases c with
 |nil=>exact⟨rfl,Go.pure (a:=δ) g1 ρ H σ .refl j ev⟩
 |cons _ _=>obtain⟨r,e,_⟩:=g1;cases e⟩
theorem bB {es:List Expr}{fg:D->aa->DM aa}{fgs:List D->aa->DM aa} (h1:DG X E e fg) (h2:DGs X E es fgs) (hs:(assignEach (e::es) X.env).map (·.2)=assign e X.env::(assignEach es X.env).map (·.2):=by rfl):DGs X E (e::es) (dN fg fgs):=
 ⟨PGs.mono (pgs_cons h1.h h2.h hs) fun vs σ H Q h=>by
  obtain⟨ρ,δ,M,ds,ev,j,c,g1⟩:=h
  cases c with
  |nil=>obtain⟨r,e,_⟩:=g1;cases e
  |cons c1 c2=>
    have g1:Go X.mg E (Ev X.mg) Q ρ H (fg _ δ>>=fun δ'=>fgs _ δ') M:=g1
    exact⟨_,_,rfl,ρ,δ,M,_,ev,j,c1,g1.bind fun ρ1 H1 M1 σ1 δ1 e1 j1 ev1 g2=>⟨ρ1,δ1,M1,_,ev1,j1,c2.mono e1,g2⟩⟩⟩
def gT(n:Nat)(fs:List D->aa->DM aa):D->aa->DM aa
 |.tup l,δ=>if l.length=n then fs l δ else stuck
 |_,_=>stuck
theorem iM {es:List Expr}{k:Nat}{n:Nat}{fgs:List D->aa->DM aa} (hc:X.calm=true) (h:DGs X E es fgs) (hn:(assignEach es X.env).length=n:=by rfl) (hst:(assignEach es X.env).findIdx? (·.1)=none:=by rfl):DG X E (.Tuple es k pos) (gT n fgs):=
 ⟨PG.mono (pg_tup hc h.h hn hst) fun v σ H Q h=>by
  obtain⟨ρ,δ,M,d,ev,j,c,g1⟩:=h
  cases c with
  | tup nx a c=>
    have g1:Go X.mg E (Ev X.mg) Q ρ H (if _ then _ else _) M:=g1
    split at g1
    ·rename_i hl
     exact⟨_,_,rfl,SqT.of a,by rw[c.len];exact hl,ρ,δ,M,_,ev,j,c,g1⟩
    ·obtain⟨r,e,_⟩:=g1;cases e
  |_=>obtain⟨r,e,_⟩:=g1;cases e⟩
def wU:D->D->D->DM Unit
 | .ref n,.int k,v=>fun M=>match M[n]? with
   |some (.lst l)=>match ixN l.length k with
     |some j=>some (.ok (),M.set n (.lst (l.set j v)))
     |none=>none
   |_=>none
 |_,_,_=>stuck
def BW(mg:Str->Option Value)(E:XK)(gs:D->D->D->DM Unit):TSet:=fun o i v H Q=>∃ρ M dO di dv,J mg ρ M H∧Cv mg ρ H o dO∧Cv mg ρ H i di∧Cv mg ρ H v dv∧Go mg E (fun _ _ (_:Unit) (_:Unit)=>True) (fun _ H'=>Q H') ρ H (gs dO di dv) M
theorem rG:PSet X (BW X.mg E wU):=by
 intro pins s σ H o i v ov iv u Q I ro ri rv h
 obtain⟨ρ,M,dO,di,dv,j,co,ci,cv,r,e,p⟩:=h
 cases co with
 | ref hn=>
   cases ci with
   | int k=>
     rename_i n a
     have e:(match M[n]? with
      |some (.lst l)=>match ixN l.length k with
        |some j=>some (R.ok (),M.set n (.lst (l.set j dv)))
        |none=>none
      |_=>none)=some r:=e
     split at e
     ·rename_i l hl
      split at e
      ·rename_i q hq
       cases e
       obtain⟨xs,hx,c⟩:=j.obj _ _ _ hn hl
       have x:Ext ρ H ρ (upd H a (.lst (xs.set q v))):=.upd (List.mem_of_getElem? hn)
       exact set_list (X:=X) pins s σ H _ _ v ov iv u Q I ro ri rv ⟨_,_,_,q,rfl,rfl,hx,by rw[c.len];exact hq,p ρ _ () x (j.upd hn ⟨_,upd_same,(c.set cv q).mono x⟩) trivial⟩
      ·cases e
     ·cases e
   |_=>cases e
 |_=>cases e
theorem oW {o i:Expr}{fo fi:aa->DM D}{gs:D->D->D->DM Unit} (ho:DE X E o fo) (hi:DE X E i fi) (hs:PSet X (BW X.mg E gs))
  (ha:∀v,assign (.Subscript o i pos) X.env v=(do
    let ov ←holding [v] (eval o X.env)
    let iv ←holding [v,ov] (eval i X.env)
    standAt pos
    holding [v,ov,iv] (setItem ov iv v)
    release [v,ov,iv] []):=by intro _;rfl):DG X E (.Subscript o i pos) (fun d δ=>fo δ>>=fun o=>fi δ>>=fun i=>gs o i d>>=fun _=>pure δ):=
 ⟨PG.mono (pg_sub ho.h hi.h hs ha) fun v σ H Q h=>by
  obtain⟨ρ,δ,M,d,ev,j,c,g1⟩:=h
  exact⟨ρ,δ,M,ev,j,g1.bind fun ρ1 H1 M1 x dx e1 j1 c1 g2=>⟨ρ1,δ,M1,ev.mono e1,j1,g2.bind fun ρ2 H2 M2 y dy e2 j2 c2 g3=>⟨ρ2,M2,dx,dy,d,j2,c1.mono e2,c2,(c.mono e1).mono e2,g3.bind fun ρ3 H3 M3 _ _ e3 j3 _ g4=>g4.pure ρ3 H3 σ .refl j3 (((ev.mono e1).mono e2).mono e3)⟩⟩⟩⟩
theorem gB{tg:Expr}{fg:D->aa->DM aa}(he:DE X E e fe)(hg:DG X E tg fg)(hs:swapsWithSole [tg] e pos.line X.env=pure false:=by rfl)(hw:swappedStores [tg] e X.env=pure none:=by rfl)
  (h1:(assignEach [tg] X.env).map (·.2)=[assign tg X.env]:=by rfl):DS X E (.Assign [tg] e pos) (fun δ=>fe δ>>=fun d=>fg d δ>>=fun δ'=>pure (.nx δ')):=⟨PS.mono (ps_asg he.h hg.h hs hw h1) fun D σ H h=>by
 obtain⟨ρ,δ,M,ev,j,g1⟩:=h
 exact⟨ρ,δ,M,ev,j,g1.bind fun ρ1 H1 M1 v d e1 j1 c1 g2=>⟨ρ1,δ,M1,d,ev.mono e1,j1,c1,g2.bind fun ρ2 H2 M2 σ2 δ2 e2 j2 ev2 g3=>g3.pure ρ2 H2 σ2 .refl j2 ev2⟩⟩⟩
def wH(i j:Nat)(fa:aa->DM (List D)):aa->DM Fl:=fun δ=>fa δ>>=fun l=>match l with
 |[v,w]=>pure (.nx ((δ.set i (some v)).set j (some w)))
 |_=>stuck
theorem xX {i j:Nat}{x y:Str}{a b:Expr}{fa:aa->DM (List D)}{px py pt:Pos}{kt k2 pt2} (hc:X.calm=true) (hN:X.N.Nodup) (hi:X.N[i]?=some x) (hj:X.N[j]?=some y) (hij:i≠j)
  (hx:X.env.scope.names.lookup x=some .local) (hy:X.env.scope.names.lookup y=some .local) (ha:DA X E [a,b] fa)
  (hw:swappedStores [.Tuple [.Name x px,.Name y py] kt pt] (.Tuple [a,b] k2 pt2) X.env=pure (some [x,y]))
  (hs:swapsWithSole [.Tuple [.Name x px,.Name y py] kt pt] (.Tuple [a,b] k2 pt2) pos.line X.env=pure false:=by rfl) :
  DS X E (.Assign [.Tuple [.Name x px,.Name y py] kt pt] (.Tuple [a,b] k2 pt2) pos) (wH i j fa):=⟨PS.mono (ps_par hc hN hi hj hij hx hy ha.h.h hw hs) fun D σ H h=>by
 obtain⟨ρ,δ,M,ev,j,g1⟩:=h
 refine⟨ρ,δ,M,ev,j,aR.bind g1 fun ρ1 H1 M1 v d e1 j1 c1 g2=>?_⟩
 cases c1 with
 |nil=>obtain⟨r,e,_⟩:=g2;cases e
 | cons c1 c2=>cases c2 with
   |nil=>obtain⟨r,e,_⟩:=g2;cases e
   |cons c2 c3=>cases c3 with
     |nil=>exact⟨_,_,rfl,aR.pure (a:=.nx _) g2 ρ1 H1 _ .refl j1 (((ev.mono e1).set c1).set c2)⟩
     |cons _ _=>obtain⟨r,e,_⟩:=g2;cases e⟩
end
inductive Itn where
 |fix (l:List D) | dyn (n:Nat)
def Itn.next:Itn->Nat->Mo->Option (Option D)
 |.fix l,i,_=>some l[i]?
 |.dyn n,i,M=>match M[n]? with
   |some (.lst l)=>some l[i]?
   |_=>none
structure ItOk(mg:Str->Option Value)(ρ:Rh)(H:Hp)(Jt:It)(it:Itn):Prop where
 item:∀(i:Nat) ρ' H' M' d,Kp ρ H ρ' H'->J mg ρ' M' H'->it.next i M'=some (some d)->Jt.go i H'∧∀x H2,Jt.yld i H' x H2->Ext ρ' H' ρ' H2∧J mg ρ' M' H2∧Cv mg ρ' H2 x d
 stop:∀(i:Nat) ρ' H' M',Kp ρ H ρ' H'->J mg ρ' M' H'->it.next i M'=some none->Jt.stop i H'
def tI(mg:Str->Option Value)(E:XK)(fi:aa->DM Itn):TI:=fun σ H R=>tD mg E (ItOk mg) fi σ H R
structure DI(X:Cx)(E:XK)(tg it:Expr)(fi:aa->DM Itn):Prop where
 h:PI X tg it (tI X.mg E fi)
theorem PI.mono{X:Cx}{tg e:Expr}{t t':TI}(h:PI X tg e t)(f:∀σ H Q,t' σ H Q->t σ H Q):PI X tg e t':=fun pins s σ H Q I q=>h pins s σ H Q I (f σ H Q q)
theorem Fo{K:PySem.W.Frag}{mg:Str->Option Value}{ρ:Rh}{H:Hp}{a:Addr}{xs:List V}{ds:List D}(n:a∉ρ)(h:H a=some (.lst xs))(c:Cvs mg ρ H xs ds):ItOk mg ρ H (Itl K a) (.fix ds) where
 item:=fun i ρ' H' M' d e j q=>by
  have hq:ds[i]?=some d:=Option.some.inj q
  obtain⟨v,hv,cv⟩:=c.get hq
  have h':=(e.keep _ _ h n).2
  refine⟨⟨xs,v,SqL.of h',hv⟩,fun x H2 y=>?_⟩
  obtain⟨rfl,y⟩:=y
  have:=y xs (SqL.of h')
  rw[hv] at this;cases this
  exact⟨.refl,j,cv.kp e⟩
 stop:=fun i ρ' H' M' e j q=>by
  have hq:ds[i]?=none:=Option.some.inj q
  exact⟨xs,SqL.of (e.keep _ _ h n).2,by rw[c.len];exact List.getElem?_eq_none_iff.mp hq⟩
theorem Fq{K:PySem.W.Frag}{mg:Str->Option Value}{ρ:Rh}{H:Hp}{a:Addr}{xs:List V}{ds:List D}(n:a∉ρ)(h:H a=some (.tup xs))(c:Cvs mg ρ H xs ds):ItOk mg ρ H (Itt K a) (.fix ds) where
 item:=fun i ρ' H' M' d e j q=>by
  have hq:ds[i]?=some d:=Option.some.inj q
  obtain⟨v,hv,cv⟩:=c.get hq
  have h':=(e.keep _ _ h n).2
  refine⟨⟨xs,v,SqT.of h',hv⟩,fun x H2 y=>?_⟩
  obtain⟨rfl,y⟩:=y
  have:=y xs (SqT.of h')
  rw[hv] at this;cases this
  exact⟨.refl,j,cv.kp e⟩
 stop:=fun i ρ' H' M' e j q=>by
  have hq:ds[i]?=none:=Option.some.inj q
  exact⟨xs,SqT.of (e.keep _ _ h n).2,by rw[c.len];exact List.getElem?_eq_none_iff.mp hq⟩
theorem Fj {K:PySem.W.Frag}{mg:Str->Option Value}{ρ:Rh}{H:Hp}{a:Addr}{n:Nat} (h:ρ.st[n]?=some a):ItOk mg ρ H (Itl K a) (.dyn n) where
 item:=fun i ρ' H' M' d e j q=>by
  have h':=e.at h
  unfold Itn.next at q
  dsimp only at q
  split at q
  ·rename_i l hl
   obtain⟨xs,hx,c⟩:=j.obj n a _ h' hl
   have hq:l[i]?=some d:=Option.some.inj q
   obtain⟨v,hv,cv⟩:=c.get hq
   refine⟨⟨xs,v,SqL.of hx,hv⟩,fun x H2 y=>?_⟩
   obtain⟨rfl,y⟩:=y
   have:=y xs (SqL.of hx)
   rw[hv] at this;cases this
   exact⟨.refl,j,cv⟩
  ·cases q
 stop:=fun i ρ' H' M' e j q=>by
  have h':=e.at h
  unfold Itn.next at q
  dsimp only at q
  split at q
  ·rename_i l hl
   obtain⟨xs,hx,c⟩:=j.obj n a _ h' hl
   have hq:l[i]?=none:=Option.some.inj q
   exact⟨xs,SqL.of hx,by rw[c.len];exact List.getElem?_eq_none_iff.mp hq⟩
  ·cases q
def nJ(lo:Int)(n:Nat):List D:=(List.range n).map fun i=>.int (lo+(i:Nat))
theorem vm{lo:Int}{n i:Nat}:(nJ lo n)[i]?=if i<n then some (.int (lo+(i:Nat))) else none:=by
 unfold nJ
 rw[List.getElem?_map]
 by_cases h:i<n
 ·rw[if_pos h,List.getElem?_range h];rfl
 ·rw[if_neg h,List.getElem?_eq_none_iff.mpr (by simp;omega)];rfl
theorem Fp {mg:Str->Option Value}{ρ:Rh}{H:Hp}{lo:Int}{n:Nat}:ItOk mg ρ H (Itr lo n) (.fix (nJ lo n)) where
 item:=fun i ρ' H' M' d e j q=>by
  have hq:(nJ lo n)[i]?=some d:=Option.some.inj q
  rw[vm] at hq
  split at hq
  ·rename_i h
   cases hq
   refine⟨h,fun x H2 y=>?_⟩
   obtain⟨rfl,rfl⟩:=y
   exact⟨.refl,j,.int _⟩
  ·cases hq
 stop:=fun i ρ' H' M' e j q=>by
  have hq:(nJ lo n)[i]?=none:=Option.some.inj q
  rw[vm] at hq
  split at hq
  ·cases hq
  ·rename_i h;exact Nat.not_lt.mp h
section
variable{X:Cx}{E:XK}{tg:Expr}
def wO(i:Int):Bool:=decide (-(2^62)≤i∧i<2^62)
def jz:List D->Option Itn
 |[.int j]=>if wO j then some (.fix (nJ 0 j.toNat)) else none
 |_=>none
theorem bV {a:Expr}{fa:aa->DM (List D)}{p pos:Pos} (hg:Gl X "range") (hm:X.mg "range"=none) (ha:DA X E [a] fa) (hs:notStar a=true:=by rfl):DI X E tg (.Call (.Name "range" p) [a] [] pos) (fun δ=>fa δ >>= fun l=>opt (jz l)):=
 ⟨PI.mono (wJ hg hm ha.h hs).h fun σ H R h=>by
  obtain⟨ρ,δ,M,ev,j,g1⟩:=h
  refine⟨ρ,δ,M,ev,j,g1.bind fun ρ1 H1 M1 x dx e1 j1 c1 g2=>?_⟩
  obtain⟨it,e,q⟩:=g2.opt
  unfold jz at e
  split at e
  ·split at e
   ·rename_i hk
    cases e
    cases c1 with | cons c1 c2=>
    cases c2;cases c1
    have hk:=of_decide_eq_true hk
    exact⟨_,rfl,hk.1,hk.2,q ρ1 H1 _ .refl j1 Fp⟩
   ·cases e
  ·cases e⟩
def Br:D->Option Itn
 |.tup l=>some (.fix l)
 |_=>none
def Bq:D->Mo->Option Itn
 |.lst l,_=>some (.fix l)
 |.ref n,M=>match M[n]? with
   |some (.lst _)=>some (.dyn n)
   |_=>none
 |_,_=>none
theorem sV{l:Expr}{fl:aa->DM D}(hl:DE X E l fl):DI X E tg l (fun δ=>fl δ>>=fun d=>opt (Br d)):=⟨PI.mono (pi_tup hl.h) fun σ H R h=>by
 obtain⟨ρ,δ,M,ev,j,g1⟩:=h
 refine⟨ρ,δ,M,ev,j,g1.bind fun ρ1 H1 M1 x dx e1 j1 c1 g2=>?_⟩
 obtain⟨it,e,q⟩:=g2.opt
 unfold Br at e
 split at e
 ·cases e
  cases c1 with | tup n a c=>
  exact⟨_,rfl,⟨_,SqT.of a⟩,q ρ1 H1 _ .refl j1 (Fq n a c)⟩
 ·cases e⟩
theorem kO {l:Expr}{fl:aa->DM D} (hl:DE X E l fl):DI X E tg l (fun δ=>fl δ >>= fun d=>rd (Bq d)):=⟨PI.mono (pi_list hl.h) fun σ H R h=>by
 obtain⟨ρ,δ,M,ev,j,g1⟩:=h
 refine⟨ρ,δ,M,ev,j,g1.bind fun ρ1 H1 M1 x dx e1 j1 c1 g2=>?_⟩
 obtain⟨it,e,q⟩:=g2.rd
 unfold Bq at e
 split at e
 ·cases e
  cases c1 with | lst n a c=>
  exact⟨_,rfl,⟨_,SqL.of a⟩,q ρ1 H1 _ .refl j1 (Fo n a c)⟩
 ·split at e
  ·rename_i l' hl'
   cases e
   cases c1 with | ref hn=>
   obtain⟨xs,hx,_⟩:=j1.obj _ _ _ hn hl'
   exact⟨_,rfl,⟨xs,SqL.of hx⟩,q ρ1 H1 _ .refl j1 (Fj hn)⟩
  ·cases e
 ·cases e⟩
end
def forL (tg:D->aa->DM aa) (fb:aa->DM Fl):List D->aa->DM Fl
 |[],δ=>pure (.nx δ)
 |d::l,δ=>tg d δ>>=fun δ1=>fb δ1>>=fun r=>match r with
   |.nx δ2=>forL tg fb l δ2
   |.ct δ2=>forL tg fb l δ2
   |.bk δ2=>pure (.nx δ2)
   |.rt d=>pure (.rt d)
def s8 (tg:D->aa->DM aa) (fb:aa->DM Fl) (n:Nat):Nat->Nat->aa->DM Fl
 |0,_,_=>stuck
 | k + 1,i,δ=>rd (Itn.next (.dyn n) i) >>= fun o=>match o with
   |none=>pure (.nx δ)
   |some d=>tg d δ>>=fun δ1=>fb δ1>>=fun r=>match r with
     |.nx δ2=>s8 tg fb n k (i+1) δ2
     |.ct δ2=>s8 tg fb n k (i+1) δ2
     |.bk δ2=>pure (.nx δ2)
     |.rt d=>pure (.rt d)
def kW(N:Nat)(tg:D->aa->DM aa)(fb:aa->DM Fl):Itn->aa->DM Fl
 |.fix l=>forL tg fb l
 |.dyn n=>s8 tg fb n N 0
theorem aR.rdb{mg:Str->Option Value}{E:XK}{D:Ends}{ρ:Rh}{H:Hp}{M:Mo}{γ:Type}{f:Mo->Option γ}{k:γ->DM Fl}(g:aR mg E D ρ H (L3.rd f>>=k) M):∃a,f M=some a∧aR mg E D ρ H (k a) M:=by
 obtain⟨r,e,p⟩:=g
 have e:DM.bind _ _ M=some r:=e
 unfold DM.bind L3.rd at e
 cases h:f M with
 |none=>rw[h] at e;cases e
 |some a=>rw[h] at e;exact⟨a,rfl,r,e,p⟩
theorem tu {X:Cx}{E:XK}{fg:D->aa->DM aa}{fb:aa->DM Fl}{D:Ends}{σ:L2.St}{H H':Hp}{ρ:Rh}{δ:aa}{M:Mo}{x:V}{d:L3.D}{N:L2.St->Hp->Prop}{again:aa->DM Fl}
  (ev:Ev X.mg ρ H σ δ) (e1:Ext ρ H ρ H') (j1:J X.mg ρ M H') (c1:Cv X.mg ρ H' x d) (ht:aR X.mg E D ρ H (fg d δ>>=fun δ1=>fb δ1>>=fun r=>match r with
    |.nx δ2=>again δ2
    |.ct δ2=>again δ2
    |.bk δ2=>pure (.nx δ2)
    |.rt d=>pure (.rt d)) M) (hN:∀ρ2 δ2 M2 σ2 H2,Ext ρ H ρ2 H2->Ev X.mg ρ2 H2 σ2 δ2->J X.mg ρ2 M2 H2->aR X.mg E D ρ2 H2 (again δ2) M2->N σ2 H2) :
  tG X.mg E fg x σ H' fun σ2 H2=>tS X.mg E fb { D with nx:=N,ct:=N,bk:=D.nx } σ2 H2:=by
 obtain⟨r,er,p⟩:=ht
 have ht':aR X.mg E D ρ H' _ M:=⟨r,er,p.mono e1⟩
 refine⟨ρ,δ,M,d,ev.mono e1,j1,c1,aR.bind ht' fun ρ2 H2 M2 σ2 δ2 e2 j2 ev2 g2=>⟨ρ2,δ2,M2,ev2,j2,g2.seq (fun δ' ρ3 H3 M3 σ3 e3 j3 ev3 g3=>?_) (fun δ' ρ3 H3 M3 σ3 e3 j3 ev3 g3=>?_) (fun δ' ρ3 H3 M3 σ3 e3 j3 ev3 g3=>?_) (fun d' ρ3 H3 M3 v e3 j3 c3 g3=>?_)⟩⟩
 ·exact hN ρ3 δ' M3 σ3 H3 ((e1.trans e2).trans e3) ev3 j3 g3
 ·exact aR.pure (a:=.nx δ') g3 ρ3 H3 σ3 .refl j3 ev3
 ·exact hN ρ3 δ' M3 σ3 H3 ((e1.trans e2).trans e3) ev3 j3 g3
 ·exact aR.pure (a:=.rt d') g3 ρ3 H3 v .refl j3 c3
theorem gC {X:Cx}{E:XK}{tg iter:Expr}{body:List Stmt}{fi:aa->DM Itn}{fg:D->aa->DM aa}{fb:aa->DM Fl}{pos:Pos} (N:Nat) (hp:PassesOwn (model X.prog X.w) X.A X.env X.xe) (hc:X.calm=true) (hi:DI X E tg iter fi) (hg:DG X E tg fg) (hb:DSs X E body fb)
  (hs:∀x,foldedSetIterable iter X.env x=pure x:=by intro _;rfl):DS X E (.For tg iter body [] pos) (fun δ=>fi δ>>=fun it=>kW N fg fb it δ):=⟨PS.mono (ps_for hp hc hi.h hg.h hb.h hs) fun D σ H h=>by
 obtain⟨ρ,δ,M,ev,j,g1⟩:=h
 refine⟨ρ,δ,M,ev,j,g1.bind fun ρ1 H1 M1 Jt it e1 j1 iok g2=>?_⟩
 cases it with
 | fix l=>
   refine⟨fun i m σ H=>∃ρ' δ' M',Ext ρ1 H1 ρ' H∧Ev X.mg ρ' H σ δ'∧J X.mg ρ' M' H∧m=(l.drop i).length∧aR X.mg E D ρ' H (forL fg fb (l.drop i) δ') M',⟨_,ρ1,δ,M1,.refl,ev.mono e1,j1,rfl,g2⟩,?_⟩
   rintro i m σ2 H2 ⟨ρ2,δ2,M2,e2,ev2,j2,rfl,g3⟩
   cases hd:l[i]? with
   |none=>
     have hl:l.drop i=[]:=List.drop_eq_nil_of_le (List.getElem?_eq_none_iff.mp hd)
     rw[hl] at g3
     exact .inl ⟨iok.stop i ρ2 H2 M2 e2.kp j2 (congrArg some hd),aR.pure (a:=.nx δ2) g3 ρ2 H2 σ2 .refl j2 ev2⟩
   |some d=>
     obtain⟨hi',hd'⟩:=List.getElem?_eq_some_iff.mp hd
     have hl:l.drop i=d::l.drop (i+1):=by rw[←hd'];exact List.drop_eq_getElem_cons hi'
     obtain⟨go,yl⟩:=iok.item i ρ2 H2 M2 d e2.kp j2 (congrArg some hd)
     rw[hl] at g3
     refine .inr ⟨go,fun σ' H'=>∃ρ' δ' M',Ext ρ1 H1 ρ' H'∧Ev X.mg ρ' H' σ' δ'∧J X.mg ρ' M' H'∧aR X.mg E D ρ' H' (forL fg fb (l.drop (i+1)) δ') M',fun σ' H' ⟨ρ',δ',M',a1,a2,a3,a4⟩=>⟨_,by rw[List.length_drop,List.length_drop];omega,ρ',δ',M',a1,a2,a3,rfl,a4⟩,fun x H' y=>?_⟩
     obtain⟨x1,x2,x3⟩:=yl x H' y
     exact tu ev2 x1 x2 x3 g3 fun ρ3 δ3 M3 σ3 H3 f1 f2 f3 f4=>⟨ρ3,δ3,M3,e2.trans f1,f2,f3,f4⟩
 | dyn n=>
   refine⟨fun i m σ H=>∃ρ' δ' M',Ext ρ1 H1 ρ' H∧Ev X.mg ρ' H σ δ'∧J X.mg ρ' M' H∧aR X.mg E D ρ' H (s8 fg fb n m i δ') M',⟨N,ρ1,δ,M1,.refl,ev.mono e1,j1,g2⟩,?_⟩
   rintro i m σ2 H2 ⟨ρ2,δ2,M2,e2,ev2,j2,g3⟩
   cases m with
   |zero=>obtain⟨r,e,_⟩:=g3;cases e
   | succ m=>
     obtain⟨o,eo,g4⟩:=aR.rdb g3
     cases o with
     |none=>exact .inl ⟨iok.stop i ρ2 H2 M2 e2.kp j2 eo,aR.pure (a:=.nx δ2) g4 ρ2 H2 σ2 .refl j2 ev2⟩
     |some d=>
       obtain⟨go,yl⟩:=iok.item i ρ2 H2 M2 d e2.kp j2 eo
       refine .inr ⟨go,fun σ' H'=>∃ρ' δ' M',Ext ρ1 H1 ρ' H'∧Ev X.mg ρ' H' σ' δ'∧J X.mg ρ' M' H'∧aR X.mg E D ρ' H' (s8 fg fb n m (i+1) δ') M',fun σ' H' z=>⟨m,Nat.lt_succ_self _,z⟩,fun x H' y=>?_⟩
       obtain⟨x1,x2,x3⟩:=yl x H' y
       exact tu ev2 x1 x2 x3 g4 fun ρ3 δ3 M3 σ3 H3 f1 f2 f3 f4=>⟨ρ3,δ3,M3,e2.trans f1,f2,f3,f4⟩⟩
def fG (c:aa->DM Bool) (fb:aa->DM Fl):Nat->aa->DM Fl
 |0,_=>stuck
 | k + 1,δ=>c δ >>= fun b=>if b then (fb δ >>= fun r=>match r with
     |.nx δ2=>fG c fb k δ2
     |.ct δ2=>fG c fb k δ2
     |.bk δ2=>pure (.nx δ2)
     |.rt d=>pure (.rt d)) else pure (.nx δ)
theorem Ad {X:Cx}{E:XK}{c:Expr}{body:List Stmt}{fc:aa->DM Bool}{fb:aa->DM Fl}{pos:Pos} (N:Nat) (hp:PassesOwn (model X.prog X.w) X.A X.env X.xe) (hc:DT X E c fc) (hb:DSs X E body fb):DS X E (.While c body [] pos) (fG fc fb N):=⟨PS.mono (L2.ps_while hp hc.h hb.h) fun D σ H h=>by
 obtain⟨ρ,δ,M,ev,j,g1⟩:=h
 refine⟨fun m σ H=>∃ρ' δ' M',Ev X.mg ρ' H σ δ'∧J X.mg ρ' M' H∧aR X.mg E D ρ' H (fG fc fb m δ') M',⟨N,ρ,δ,M,ev,j,g1⟩,?_⟩
 rintro m σ2 H2 ⟨ρ2,δ2,M2,ev2,j2,g3⟩
 cases m with
 |zero=>obtain⟨r,e,_⟩:=g3;cases e
 | succ m=>
   refine⟨ρ2,δ2,M2,ev2,j2,aR.bind g3 fun ρ3 H3 M3 b b' e3 j3 cb g4=>?_⟩
   have cb:b=b':=cb
   subst cb
   cases b with
   |true=>
     refine iteT ⟨fun σ' H'=>∃ρ' δ' M',Ev X.mg ρ' H' σ' δ'∧J X.mg ρ' M' H'∧aR X.mg E D ρ' H' (fG fc fb m δ') M',fun σ' H' z=>⟨m,Nat.lt_succ_self _,z⟩,ρ3,δ2,M3,ev2.mono e3,j3,?_⟩
     refine aR.seq g4 (fun δ' ρ4 H4 M4 σ4 e4 j4 ev4 g5=>⟨ρ4,δ',M4,ev4,j4,g5⟩) (fun δ' ρ4 H4 M4 σ4 e4 j4 ev4 g5=>?_) (fun δ' ρ4 H4 M4 σ4 e4 j4 ev4 g5=>⟨ρ4,δ',M4,ev4,j4,g5⟩) (fun d' ρ4 H4 M4 v e4 j4 c4 g5=>?_)
     ·exact aR.pure (a:=.nx δ') g5 ρ4 H4 σ4 .refl j4 ev4
     ·exact aR.pure (a:=.rt d') g5 ρ4 H4 v .refl j4 c4
   |false=>exact iteF (aR.pure (a:=.nx δ2) g4 ρ3 H3 σ2 .refl j3 (ev2.mono e3))⟩
def vz(mg:Str->Option Value)(F:List D->DM D):Sp:=fun vs H Q E=>∃ρ M ds,Cvs mg ρ H vs ds∧J mg ρ M H∧Go mg E (Cv mg) Q ρ H (F ds) M
structure DefD(P:Program)(w:World)(K:PySem.W.Frag)(mg:Str->Option Value)(base:Heap)(k:Nat)(x:Str)(ps:List Str)(F:List D->DM D):Prop where
 h:DefC P w K mg base k x ps (vz mg F)
def d7(n:Nat)(ds:List D):aa:=ds.map some++List.replicate (n-ds.length) none
def aF(p n:Nat)(fb:aa->DM Fl)(ds:List D):DM D:=if ds.length=p then fb (d7 n ds)>>=fun r=>match r with
 |.nx _=>pure .non
 |.rt d=>pure d
 |_=>stuck else stuck
theorem jn{mg:Str->Option Value}{ρ:Rh}{H:Hp}{N:List Str}{vs:List V}{ds:List D}(c:Cvs mg ρ H vs ds):Ev mg ρ H (L2.start N vs) (d7 N.length ds):=by
 unfold L2.start d7
 refine⟨by simp[c.len],fun i d q=>?_⟩
 by_cases hi:i<ds.length
 ·rw[List.getElem?_append_left (by rw[List.length_map];exact hi),List.getElem?_map] at q
  obtain⟨d',h1,h2⟩:=Option.map_eq_some_iff.mp q
  cases h2
  obtain⟨v,hv,cv⟩:=c.get h1
  exact⟨v,by rw[List.getElem?_append_left (by rw[List.length_map,c.len];exact hi),List.getElem?_map,hv];rfl,cv⟩
 ·rw[List.getElem?_append_right (by rw[List.length_map];omega),List.getElem?_replicate] at q
  split at q<;>cases q
section
variable{P:Program}{w:World}{K:PySem.W.Frag}{mg:Str->Option Value}{base:Heap}{k:Nat}{x:Str}{N ps:List Str}{st:Stmt}
theorem aR.aF{E:XK}{Q:VK}{ρ:Rh}{H:Hp}{M:Mo}{n p:Nat}{fb:aa->DM Fl}{ds:List D}(g:Go mg E (Cv mg) Q ρ H (L3.aF p n fb ds) M):ds.length=p∧aR mg E { nx:=fun _ H'=>Q .non H',rt:=Q } ρ H (fb (d7 n ds)) M:=by
 obtain⟨r,e,p⟩:=g
 unfold L3.aF at e
 split at e
 rotate_left
 ·cases e
 rename_i hl
 refine⟨hl,?_⟩
 have e:DM.bind _ _ M=some r:=e
 unfold DM.bind at e
 split at e
 ·cases e
 ·rename_i c M' em
  cases e
  exact⟨_,em,p⟩
 ·rename_i a M' em
  refine⟨_,em,?_⟩
  cases a with
  |nx δ'=>cases e;exact fun ρ1 H1 b x j c=>p ρ1 H1 .non x j .non
  |rt d=>cases e;exact fun ρ1 H1 b x j c=>p ρ1 H1 b x j c
  |bk δ'=>cases e
  |ct δ'=>cases e
theorem DefAt.okD {fb:aa->DM Fl} (D:DefAt K mg x st) (S:FnScope N ps (defScope st)) (hb:∀ (kV doc pm:Value) (an:Option Addr) (cdv ct:Value) (us:List Value),us.length=ps.length->bindArgs (PySem.W.fnOf x x (defArgs st) (defBody st) (defScope st) .none kV doc pm an cdv ct) ⟨us,[]⟩=pure (ps.zip us))
  (hbody:∀(f:Addr) (cdv:Value) (A:Around) (outer:List Env) (s:Shared) (H:Hp) (E:XK),Room k (A.deeper (envOfC x (defScope st) s.heap.objs.size f cdv))->
    DSs (aH P w K mg base N x (defScope st) f cdv A outer s H E) E (defBody st) fb):DefD P w K mg base (k+1) x ps (aF ps.length N.length fb):=⟨by
 refine D.okE S hb (fun vs H Q E h=>?_) fun f cdv A outer s H vs Q E hr h=>?_
 ·obtain⟨ρ,M,ds,c,j,g⟩:=h
  rw[c.len];exact (aR.aF g).1
 obtain⟨ρ,M,ds,c,j,g⟩:=h
 exact⟨_,(hbody f cdv A outer s H E hr).h,ρ,_,M,jn c,j,(aR.aF g).2⟩⟩
theorem DefAt.okN {F:List D->DM D}{fb:Nat->aa->DM Fl} (D:DefAt K mg x st) (S:FnScope N ps (defScope st)) (hb:∀ (kV doc pm:Value) (an:Option Addr) (cdv ct:Value) (us:List Value),us.length=ps.length->bindArgs (PySem.W.fnOf x x (defArgs st) (defBody st) (defScope st) .none kV doc pm an cdv ct) ⟨us,[]⟩=pure (ps.zip us))
  (hf:∀ds M r,F ds M=some r->∃n,aF ps.length N.length (fb n) ds M=some r)
  (hbody:∀(n:Nat) (f:Addr) (cdv:Value) (A:Around) (outer:List Env) (s:Shared) (H:Hp) (E:XK),Room k (A.deeper (envOfC x (defScope st) s.heap.objs.size f cdv))->
    DSs (aH P w K mg base N x (defScope st) f cdv A outer s H E) E (defBody st) (fb n)):DefD P w K mg base (k+1) x ps F:=⟨by
 refine D.okE S hb (fun vs H Q E h=>?_) fun f cdv A outer s H vs Q E hr h=>?_
 ·obtain⟨ρ,M,ds,c,j,r,e,p⟩:=h
  obtain⟨n,e2⟩:=hf ds M r e
  rw[c.len];exact (aR.aF ⟨r,e2,p⟩).1
 obtain⟨ρ,M,ds,c,j,r,e,p⟩:=h
 obtain⟨n,e2⟩:=hf ds M r e
 exact⟨_,(hbody n f cdv A outer s H E hr).h,ρ,_,M,jn c,j,(aR.aF ⟨r,e2,p⟩).2⟩⟩
end
mutual
inductive Fz(M:Mo)(k:Nat):D->D->Prop
 |non:Fz M k .non .non
 |bl (b:Bool):Fz M k (.bl b) (.bl b)
 |int (i:Int):Fz M k (.int i) (.int i)
 |str (x:Str):Fz M k (.str x) (.str x)
 |tup {l l':List D}:Fzs M k l l'->Fz M k (.tup l) (.tup l')
 |lst {l l':List D}:Fzs M k l l'->Fz M k (.lst l) (.lst l')
 |dic {ks:List Key}{l l':List D}:Fzs M k l l'->Fz M k (.dic ks l) (.dic ks l')
 |obj {c:Str}{ns:List Str}{l l':List D}:Fzs M k l l'->Fz M k (.obj c ns l) (.obj c ns l')
 |scr (ns:List Int):Fz M k (.scr ns) (.scr ns)
 |old {n:Nat}:n<k->Fz M k (.ref n) (.ref n)
 |new {n:Nat}{l l':List D}:k≤n->M[n]?=some (.lst l)->Fzs M k l l'->Fz M k (.ref n) (.lst l')
 |cls (c:Str):Fz M k (.cls c) (.cls c)
 |ty (c:String):Fz M k (.ty c) (.ty c)
 |exn (a:Addr):Fz M k (.exn a) (.exn a)
inductive Fzs(M:Mo)(k:Nat):List D->List D->Prop
 |nil:Fzs M k [] []
 |cons {d d':D}{l l':List D}:Fz M k d d'->Fzs M k l l'->Fzs M k (d::l) (d'::l')
end
def JG(M:Mo)(k:Nat):DO->DO->Prop
 |.lst l,.lst l'=>Fzs M k l l'
 |.dic ks l,.dic ks' l'=>ks=ks'∧Fzs M k l l'
 |.ins c ns l,.ins c' ns' l'=>c=c'∧ns=ns'∧Fzs M k l l'
 |_,_=>False
def Il(M':Mo)(k:Nat)(M1:Mo):Prop:=M1.length=k∧∀(n:Nat) o,M1[n]?=some o->∃o',M'[n]?=some o'∧JG M' k o' o
section
variable{mg:Str->Option Value}{ρ ρ':Rh}{H:Hp}{M:Mo}{k:Nat}
structure Sub(ρ ρ':Rh)(k:Nat):Prop where
 st:∃τ,ρ'.st=ρ.st++τ
 vo:ρ'.vo=ρ.vo
 len:ρ.st.length=k
theorem Sub.out(s:Sub ρ ρ' k){a:Addr}(h:a∉ρ'):a∉ρ:=fun z=>by
 obtain⟨τ,e⟩:=s.st
 rcases z with z | z
 ·exact h (.inl (by rw[e];exact List.mem_append_left _ z))
 ·exact h (.inr (by rw[s.vo];exact z))
mutual
theorem Cv.freeze (s:Sub ρ ρ' k) (j:J mg ρ' M H):∀ {d d':D}{v:V},Fz M k d d'->Cv mg ρ' H v d->Cv mg ρ H v d'
 |_,_,_,.non,c=>by cases c;exact .non
 |_,_,_,.bl b,c=>by cases c;exact .bl b
 |_,_,_,.int b,c=>by cases c;exact .int b
 |_,_,_,.str b,c=>by cases c;exact .str b
 |_,_,_,.tup f,c=>by cases c with | tup n h c=>exact .tup (s.out n) h (Cvs.freeze s j f c)
 |_,_,_,.lst f,c=>by cases c with | lst n h c=>exact .lst (s.out n) h (Cvs.freeze s j f c)
 |_,_,_,.dic f,c=>by cases c with | dic n h l c=>exact .dic (s.out n) h l (Cvs.freeze s j f c)
 |_,_,_,.obj f,c=>by cases c with | obj n m h l c=>exact .obj (s.out n) m h l (Cvs.freeze s j f c)
 |_,_,_,.scr ns,c=>by cases c with | scr n h=>exact .scr (s.out n) h
 |_,_,_,.old hn,c=>by
   cases c with | ref h=>
   obtain⟨τ,e⟩:=s.st
   rw[e,List.getElem?_append_left (by rw[s.len];exact hn)] at h
   exact .ref h
 | _,_,_,.new (n:=n) hn hm f,c=>by
   cases c with | ref h=>
   rename_i a
   obtain⟨xs,hx,c⟩:=j.obj _ _ _ h hm
   refine .lst (fun z=>?_) hx (Cvs.freeze s j f c)
   rcases z with z | z
   ·obtain⟨m,hm'⟩:=List.mem_iff_getElem?.mp z
    obtain⟨τ,e⟩:=s.st
    have hl:=(List.getElem?_eq_some_iff.mp hm').1
    have h2:ρ'.st[m]?=some a:=by rw[e,List.getElem?_append_left hl];exact hm'
    have:=j.inj h h2
    have:=s.len
    omega
   ·exact (j.vol a (by rw[s.vo];exact z)).1 (List.mem_of_getElem? h)
 |_,_,_,.cls b,c=>by cases c with | cls h=>exact .cls h
 |_,_,_,.ty b,c=>by cases c;exact .ty b
 |_,_,_,.exn b,c=>by cases c;exact .exn b
theorem Cvs.freeze(s:Sub ρ ρ' k)(j:J mg ρ' M H):∀{d d':List D}{v:List V},Fzs M k d d'->Cvs mg ρ' H v d->Cvs mg ρ H v d'
 |_,_,_,.nil,c=>by cases c;exact .nil
 |_,_,_,.cons f fs,c=>by cases c with | cons c cs=>exact .cons (Cv.freeze s j f c) (Cvs.freeze s j fs cs)
end
theorem J.freeze {M1:Mo} (s:Sub ρ ρ' k) (j:J mg ρ' M H) (hk:ρ.st.length=M1.length) (f:Il M k M1):J mg ρ M1 H:=by
 obtain⟨τ,e⟩:=s.st
 refine⟨hk,?_,fun n a o h1 h2=>?_,fun a ha=>?_⟩
 ·have:=j.nd
  rw[e] at this
  exact (List.nodup_append.mp this).1
 ·obtain ⟨o',h3,fo⟩:=f.2 n o h2
  have hl:=(List.getElem?_eq_some_iff.mp h1).1
  have c:=j.obj n a o' (by rw[e,List.getElem?_append_left hl];exact h1) h3
  cases o' with
  |lst l=>cases o with
    |lst l'=>obtain⟨xs,hx,c⟩:=c;exact⟨xs,hx,Cvs.freeze s j fo c⟩
    |dic _ _=>exact (show False from fo).elim
    |ins _ _ _=>exact (show False from fo).elim
  |dic ks l=>cases o with
    |lst l'=>exact (show False from fo).elim
    |dic ks' l'=>obtain⟨xs,hx,q,c⟩:=c;obtain⟨rfl,fo⟩:=fo;exact⟨xs,hx,q,Cvs.freeze s j fo c⟩
    |ins _ _ _=>exact (show False from fo).elim
  |ins c' ns l=>cases o with
    |lst l'=>exact (show False from fo).elim
    |dic _ _=>exact (show False from fo).elim
    |ins c'' ns' l'=>obtain⟨C,dx,xs,m,hx,q,c⟩:=c;obtain⟨rfl,rfl,fo⟩:=fo;exact⟨C,dx,xs,m,hx,q,Cvs.freeze s j fo c⟩
 ·obtain⟨x,xs,h⟩:=j.vol a (by rw[s.vo];exact ha)
  exact⟨fun z=>x (by rw[e];exact List.mem_append_left _ z),xs,h⟩
end
section
variable{X:Cx}{E:XK}{j k:Nat}{ps:List Str}{F:List D->DM D}{x:Str}{p pos:Pos}{e:Expr}{es:List Expr}{fs:aa->DM (List D)}
theorem aB(D:DefD X.prog X.w X.K X.mg X.base j x ps F)(hr:Room k X.A)(hx:Passes (bw X.prog X.w) X E)(ha:DA X E (e::es) fs)(hjk:j≤k:=by decide)(hg:Gl X x:=by rfl)(hdb:(x==("__debug__":Str))=false:=by decide)
  (he:notStar e=true:=by rfl) (hpl:(backTo pos (starEach es X.env)).any (·.1)=false:=by rfl) :
  DE X E (.Call (.Name x p) (e::es) [] pos) (fun δ=>fs δ>>=F):=⟨PE.mono (yR D.h hr hx ha.h hjk hg hdb he hpl) fun σ H Q h=>by
 obtain⟨ρ,δ,M,ev,j,g1⟩:=h
 refine⟨ρ,δ,M,ev,j,g1.bind fun ρ1 H1 M1 xs dxs e1 j1 c1 g2=>?_⟩
 rw[List.append_nil]
 exact⟨ρ1,M1,dxs,c1,j1,g2⟩⟩
def rC(mg:Str->Option Value)(E:XK)(g:List D->DM D):List V->Hp->VK->Prop:=fun vs H Q=>∃ρ M ds,J mg ρ M H∧Cvs mg ρ H vs ds∧Go mg E (Cv mg) Q ρ H (g ds) M
def CallD(X:Cx)(E:XK)(f:Value)(g:List D->DM D):Prop:=CallR X f (rC X.mg E g)
theorem aO{id:String}{g:List D->DM D}(hc:CallD X E (.builtin id) g)(hm:X.mg x=none)(ha:DA X E (e::es) fs)(hg:Gl X x:=by rfl)(hv:bootBuiltins x=some (.builtin id):=by decide +kernel)(hn:x≠"__name__":=by decide)(hdb:(x==("__debug__":Str))=false:=by decide)
  (he:notStar e=true:=by rfl) (hpl:(backTo pos (starEach es X.env)).any (·.1)=false:=by rfl) :
  DE X E (.Call (.Name x p) (e::es) [] pos) (fun δ=>fs δ>>=g):=⟨PE.mono (Hy hc hm ha.h hg hv hn hdb he hpl) fun σ H Q h=>by
 obtain⟨ρ,δ,M,ev,j,g1⟩:=h
 exact⟨ρ,δ,M,ev,j,g1.bind fun ρ1 H1 M1 xs dxs e1 j1 c1 g2=>⟨ρ1,M1,dxs,j1,c1,g2⟩⟩⟩
theorem kJ{T:String}{g:List D->DM D}(hc:CallD X E (.type T) g)(hm:X.mg x=none)(ha:DA X E (e::es) fs)(hg:Gl X x:=by rfl)(hv:bootBuiltins x=some (.type T):=by decide +kernel)(hn:x≠"__name__":=by decide)(hdb:(x==("__debug__":Str))=false:=by decide)
  (he:notStar e=true:=by rfl) (hpl:(backTo pos (starEach es X.env)).any (·.1)=false:=by rfl) :
  DE X E (.Call (.Name x p) (e::es) [] pos) (fun δ=>fs δ>>=g):=⟨PE.mono (HB hc hm ha.h hg hv hn hdb he hpl) fun σ H Q h=>by
 obtain⟨ρ,δ,M,ev,j,g1⟩:=h
 exact⟨ρ,δ,M,ev,j,g1.bind fun ρ1 H1 M1 xs dxs e1 j1 c1 g2=>⟨ρ1,M1,dxs,j1,c1,g2⟩⟩⟩
theorem CallD.of{f:Value}{r:List V->Hp->VK->Prop}{g:List D->Mo->Option D}(hr:CallR X f r)
  (h:∀vs H Q ρ M ds d,J X.mg ρ M H->Cvs X.mg ρ H vs ds->g ds M=some d->(∀ρ' H' v,Ext ρ H ρ' H'->J X.mg ρ' M H'->Cv X.mg ρ' H' v d->Q v H')->r vs H Q):CallD X E f (fun l=>rd (g l)):=by
 intro pins s σ H vs us Q I rs q
 obtain⟨ρ,M,ds,j,c,go⟩:=q
 obtain⟨d,e,p⟩:=go.rd
 exact hr pins s σ H vs us Q I rs (h vs H Q ρ M ds d j c e p)
end
section
variable{X:Cx}{E:XK}{mg:Str->Option Value}{ρ:Rh}{H:Hp}{M:Mo}
theorem Cvs.one{vs:List V}{d:D}(c:Cvs mg ρ H vs [d]):∃v,vs=[v]∧Cv mg ρ H v d:=by
 cases c with
 |cons c c2=>cases c2;exact⟨_,rfl,c⟩
theorem Cvs.two {vs:List V}{d e:D} (c:Cvs mg ρ H vs [d,e]):∃ v w,vs=[v,w]∧Cv mg ρ H v d∧Cv mg ρ H w e:=by
 cases c with
 |cons c c2=>
   obtain⟨w,rfl,k⟩:=c2.one
   exact⟨_,_,rfl,c,k⟩
def gG:List D->Mo->Option D
 |[.tup l],_=>some (.int l.length)
 |[.scr l],_=>some (.int l.length)
 |[.str x],_=>if x.length≤sizeLine then some (.int x.length) else none
 |[d],M=>(aN d M).map fun l=>.int l.length
 |_,_=>none
theorem call_lenD:CallD X E (.builtin "len") (fun l=>rd (gG l)):=CallD.of (call_len_seq.or call_len_str) fun vs H Q ρ M ds d j c e q=>by
 unfold gG at e
 split at e
 ·cases e
  obtain⟨v,rfl,k⟩:=c.one
  replace c:=k
  cases c with | tup n a c=>
  exact .inl ⟨_,_,rfl,.inr (SqT.of a),by rw[c.len];exact q ρ H _ .refl j (.int _)⟩
 ·cases e
  obtain⟨v,rfl,k⟩:=c.one
  replace c:=k
  cases c with | scr n a=>
  exact .inl ⟨_,_,rfl,.inl (.inl a),by rw[List.length_map];exact q ρ H _ .refl j (.int _)⟩
 ·split at e
  ·cases e
   obtain⟨v,rfl,k⟩:=c.one
   replace c:=k
   cases c
   exact .inr ⟨_,rfl,‹_›,q ρ H _ .refl j (.int _)⟩
  ·cases e
 ·obtain⟨l,h1,rfl⟩:=Option.map_eq_some_iff.mp e
  obtain⟨v,rfl,k⟩:=c.one
  replace c:=k
  obtain⟨a,xs,rfl,ha,c⟩:=b8 j c h1
  exact .inl ⟨_,_,rfl,.inl (SqL.of ha),by rw[c.len];exact q ρ H _ .refl j (.int _)⟩
 ·cases e
def vI:List D->Mo->Option D
 |[.int i],_=>some (.int (if i<0 then -i else i))
 |_,_=>none
theorem xJ:CallD X E (.builtin "abs") (fun l=>rd (vI l)):=CallD.of call_abs fun vs H Q ρ M ds d j c e q=>by
 unfold vI at e
 split at e
 ·cases e
  obtain⟨v,rfl,k⟩:=c.one
  replace c:=k
  cases c
  exact⟨_,rfl,q ρ H _ .refl j (.int _)⟩
 ·cases e
def wB:List D->Mo->Option D
 |[.int i,.int j],_=>some (.int (if j > i then j else i))
 |_,_=>none
def wC:List D->Mo->Option D
 |[.int i,.int j],_=>some (.int (if j<i then j else i))
 |_,_=>none
theorem vQ(hc:X.calm=true):CallD X E (.builtin "max") (fun l=>rd (wB l)):=CallD.of (call_max2 hc) fun vs H Q ρ M ds d j c e q=>by
 unfold wB at e
 split at e
 ·cases e
  obtain⟨v,w,rfl,k,c2⟩:=c.two
  replace c:=k
  cases c;cases c2
  exact⟨_,_,rfl,q ρ H _ .refl j (.int _)⟩
 ·cases e
theorem vR(hc:X.calm=true):CallD X E (.builtin "min") (fun l=>rd (wC l)):=CallD.of (call_min2 hc) fun vs H Q ρ M ds d j c e q=>by
 unfold wC at e
 split at e
 ·cases e
  obtain⟨v,w,rfl,k,c2⟩:=c.two
  replace c:=k
  cases c;cases c2
  exact⟨_,_,rfl,q ρ H _ .refl j (.int _)⟩
 ·cases e
def jJ:D->Mo->Option (List D)
 |.tup l,_=>some l
 |d,M=>aN d M
theorem ut(j:J mg ρ M H){x:V}{d:D}{l:List D}(c:Cv mg ρ H x d)(e:jJ d M=some l):∃a xs,x=.ref a∧(H a=some (.lst xs)∨H a=some (.tup xs))∧Cvs mg ρ H xs l:=by
 unfold jJ at e
 split at e
 ·cases e
  cases c with | tup n a c=>exact⟨_,_,rfl,.inr a,c⟩
 ·obtain⟨a,xs,rfl,ha,c⟩:=b8 j c e
  exact⟨a,xs,rfl,.inl ha,c⟩
def intsOf:List D->Option (List Int)
 |[]=>some []
 |.int i::l=>(intsOf l).map (i::·)
 |_=>none
theorem ints_of:∀ {xs:List V}{l:List D}{ns:List Int},Cvs mg ρ H xs l->intsOf l=some ns->xs=ns.map V.int
 |_,_,_,.nil,e=>by cases e;rfl
 | _,_,_,.cons (d:=d) c cs,e=>by
   cases d with
   |int i=>
     obtain⟨ms,h1,rfl⟩:=Option.map_eq_some_iff.mp e
     cases c
     rw[ints_of cs h1];rfl
   |_=>cases e
theorem xP (hh:X.A.handled=none):CallR X (.builtin "sum") (fun vs H Q=>∃ (l:Addr) (ns:List Int),vs=[.ref l]∧(H l=some (.lst (ns.map V.int))∨H l=some (.tup (ns.map V.int)))∧Q (.int ns.sum) H):=by
 intro pins s σ H vs us Q I r h
 obtain⟨l,ns,rfl,hH,q⟩:=h
 obtain⟨u,rfl,ru⟩:=vals1 r
 cases ru
 have fin:∀(its:List Value),IntsAre its ns->∃xs,its.toArray=intItems xs∧preSum (numAt xs) xs.size=ns.sum:=fun its hi=>by
  obtain⟨xs,hx⟩:=hi.allInts.items
  have hn:numsOf its.toArray.toList=ns:=by rw[show its.toArray.toList=its from rfl,hi.numsOf]
  rw[hx] at hn
  rw[PySem.nums_intItems] at hn
  exact⟨xs,hx,by rw[PySem.preSum_eq,List.take_of_length_le (by simp),hn]⟩
 rcases hH with hH | hH
 ·obtain ⟨its,rv,p,hz⟩:=I.list (SqL.of (K:=X.K) hH)
  obtain⟨xs,hx,hs⟩:=fin its (intsAre_of rv)
  have hl:=p.isList
  rw[hx] at hl
  obtain⟨o,ho,hc,n,hd⟩:=id hl
  have hne:l≠s.heap.objs.size:=Nat.ne_of_lt (Heap.lt_size ho)
  have hsz:(intItems xs).size=xs.size:=by simp[intItems]
  have W:=(Walks.list (prog:=X.prog) (w:=X.w) (A:=X.A.in1) hh s.heap.objs.size l hne (intItems xs)).toS
  rw[hsz] at W
  refine call_sum_walkAnyS (wpAny_pyIter_list hl ?_)
  refine⟨s.heap.objs.size,_,_,_,_,_,_,numAt xs,rfl,W,⟨⟨_,Heap.get?_push_size _ rfl,rfl,rfl⟩,hl.at fun o e=>Heap.get?_push_of_some _ e⟩,fun b hb=>?_,fun i v hP=>intItems_at hP,fun s' t' hm=>?_⟩
  ·rcases List.mem_cons.mp hb with rfl | hb
   ·exact Heap.lt_size (Heap.get?_push_size _ rfl)
   ·obtain rfl:=List.mem_singleton.mp hb
    exact Heap.lt_size (Heap.get?_push_of_some _ ho)
  ·obtain⟨h',g',d',tk',os'⟩:=s'
   have e1:g'=s.gens:=hm.gens
   have e2:d'=s.drawn:=hm.drawn
   have e3:os'=s.os:=hm.os
   subst e1 e2 e3
   refine⟨.int ns.sum,H,I.kept (h':=h') (t':=tk') fun b o e=>hm.heap b o (fun hb=>absurd (Heap.lt_size e) ((List.mem_singleton.mp hb) ▸ Nat.lt_irrefl _)) (Heap.get?_push_of_some _ e),⟨t',?_⟩,q⟩
   rw[←hs]
 ·obtain⟨its,rv,p,hz⟩:=I.tuple (SqT.of (K:=X.K) hH)
  obtain⟨xs,hx,hs⟩:=fin its (intsAre_of rv)
  rw[hx] at p
  exact PySem.W.ktm_sumG hh (show s.heap.IsTuple l _ from p) fun h' tk t' hk=>⟨.int ns.sum,H,I.kept hk,⟨t',by rw[←hs]⟩,q⟩
def uv:List D->Mo->Option D
 |[d],M=>(jJ d M).bind fun l=>(intsOf l).map fun ns=>.int ns.sum
 |_,_=>none
theorem dq(hh:X.A.handled=none):CallD X E (.builtin "sum") (fun l=>rd (uv l)):=CallD.of (xP hh) fun vs H Q ρ M ds d j c e q=>by
 unfold uv at e
 split at e
 ·obtain⟨l,h1,e1⟩:=Option.bind_eq_some_iff.mp e
  obtain⟨ns,h2,rfl⟩:=Option.map_eq_some_iff.mp e1
  obtain⟨v,rfl,k⟩:=c.one
  replace c:=k
  obtain⟨a,xs,rfl,ha,c⟩:=ut j c h1
  have:=ints_of c h2
  subst this
  exact⟨_,ns,rfl,ha,q ρ H _ .refl j (.int _)⟩
 ·cases e
def Bh:D->Option Bool
 |.bl b=>some b
 |.int i=>some (i != 0)
 |_=>none
def d9:List D->Option (List Bool)
 |[]=>some []
 |d::l=>match Bh d,d9 l with
   |some b,some bs=>some (b::bs)
   |_,_=>none
theorem qy:∀ {xs:List V}{l:List D}{bs:List Bool},Cvs mg ρ H xs l->d9 l=some bs->(∀ x∈xs,scS x=true)∧xs.map d8=bs
 |_,_,_,.nil,e=>by cases e;exact⟨(fun x hx=>nomatch hx),rfl⟩
 | _,_,_,.cons (d:=d) (ds:=ds) (vs:=vs) c cs,e=>by
   unfold d9 at e
   split at e
   ·rename_i b bs h1 h2
    cases e
    obtain⟨a1,a2⟩:=qy cs h2
    cases c with
    |bl b'=>cases h1;exact⟨fun x hx=>by rcases List.mem_cons.mp hx with rfl | hx;rfl;exact a1 x hx,by rw[List.map_cons,a2];rfl⟩
    |int b'=>cases h1;exact⟨fun x hx=>by rcases List.mem_cons.mp hx with rfl | hx;rfl;exact a1 x hx,by rw[List.map_cons,a2];rfl⟩
    |_=>cases h1
   ·cases e
def pW:List D->Mo->Option D
 |[d],M=>(aN d M).bind fun l=>(d9 l).map fun bs=>.bl (bs.all id)
 |_,_=>none
def vK:List D->Mo->Option D
 |[.tup l],_=>(d9 l).map fun bs=>.bl (bs.any id)
 |_,_=>none
theorem kh(hh:X.A.handled=none):CallD X E (.builtin "all") (fun l=>rd (pW l)):=CallD.of (zO hh) fun vs H Q ρ M ds d j c e q=>by
 unfold pW at e
 split at e
 ·obtain⟨l,h1,e1⟩:=Option.bind_eq_some_iff.mp e
  obtain⟨ns,h2,rfl⟩:=Option.map_eq_some_iff.mp e1
  obtain⟨v,rfl,k⟩:=c.one
  replace c:=k
  obtain⟨a,xs,rfl,ha,c⟩:=b8 j c h1
  obtain⟨t1,t2⟩:=qy c h2
  subst t2
  exact⟨_,xs,rfl,ha,t1,by have z:=q ρ H _ .refl j (.bl _);rw[List.all_map] at z;exact z⟩
 ·cases e
theorem xK(hh:X.A.handled=none):CallD X E (.builtin "any") (fun l=>rd (vK l)):=CallD.of (zP hh) fun vs H Q ρ M ds d j c e q=>by
 unfold vK at e
 split at e
 ·obtain⟨ns,h2,rfl⟩:=Option.map_eq_some_iff.mp e
  obtain⟨v,rfl,k⟩:=c.one
  replace c:=k
  cases c with | tup n ha c=>
  obtain⟨t1,t2⟩:=qy c h2
  subst t2
  exact⟨_,_,rfl,ha,t1,by have z:=q ρ H _ .refl j (.bl _);rw[List.any_map] at z;exact z⟩
 ·cases e
def pQ:List D->Mo->Option D
 |[d],M=>(jJ d M).map .tup
 |_,_=>none
theorem cC:CallD X E (.type "tuple") (fun l=>rd (pQ l)):=CallD.of call_tuple_of fun vs H Q ρ M ds d j c e q=>by
 unfold pQ at e
 split at e
 ·obtain⟨l,h1,rfl⟩:=Option.map_eq_some_iff.mp e
  obtain⟨v,rfl,k⟩:=c.one
  replace c:=k
  unfold jJ at h1
  split at h1
  ·cases h1
   cases c with | tup n a c=>
   exact⟨_,_,rfl,.inr ⟨SqT.of a,q ρ H _ .refl j (.tup n a c)⟩⟩
  ·obtain⟨a,xs,rfl,ha,c⟩:=b8 j c h1
   exact⟨_,_,rfl,.inl ⟨SqL.of ha,fun p hp=>q ρ _ _ (.lay hp) (j.lay _ hp) (.tup (j.fresh hp) upd_same (c.mono (.lay hp)))⟩⟩
 ·cases e
def jx:List D->Mo->Option (List D)
 |[d],M=>jJ d M
 |_,_=>none
theorem vO:CallD X E (.type "list") (fun l=>rd (fun M=>(jx l M).map .lst)):=CallD.of call_list_of fun vs H Q ρ M ds d j c e q=>by
 obtain⟨l,e1,rfl⟩:=Option.map_eq_some_iff.mp e
 unfold jx at e1
 split at e1
 ·obtain⟨v,rfl,k⟩:=c.one
  replace c:=k
  obtain⟨a,xs,rfl,ha,c⟩:=ut j c e1
  exact⟨_,_,rfl,ha.imp SqL.of SqT.of,fun p hp=>q ρ _ _ (.lay hp) (j.lay _ hp) (.lst (j.fresh hp) upd_same (c.mono (.lay hp)))⟩
 ·cases e1
theorem vP:CallD X E (.type "list") (fun l=>rd (jx l)>>=cG):=by
 intro pins s σ H vs us Q I rs q
 obtain⟨ρ,M,ds,j,c,go⟩:=q
 obtain⟨l,e1,g⟩:=Go.rdb go
 unfold jx at e1
 split at e1
 ·obtain⟨v,rfl,k⟩:=c.one
  replace c:=k
  obtain⟨a,xs,rfl,ha,c⟩:=ut j c e1
  exact call_list_of (X:=X) pins s σ H _ us Q I rs ⟨_,_,rfl,ha.imp SqL.of SqT.of,fun p hp=>(g.cG j c hp).2⟩
 ·cases e1
def tyOf:D->Mo->Option String
 |.non,_=>some "NoneType"
 |.bl _,_=>some "bool"
 |.int _,_=>some "int"
 |.str _,_=>some "str"
 |.tup _,_=>some "tuple"
 |.lst _,_=>some "list"
 |.scr _,_=>some "list"
 |.dic _ _,_=>some "dict"
 |.ref n,M=>match M[n]? with
   |some (.lst _)=>some "list"
   |some (.dic _ _)=>some "dict"
   |_=>none
 |_,_=>none
theorem Ik {K:PySem.W.Frag} (j:J mg ρ M H) {x:V}{d:D}{t:String} (c:Cv mg ρ H x d) (e:tyOf d M=some t):TyOf K H x (.type t):=by
 cases c with
 |non=>cases e;exact .non
 |bl b=>cases e;exact .bl b
 |int b=>cases e;exact .int b
 |str b=>cases e;exact .str b
 |tup n h c=>cases e;exact .tup h
 |lst n h c=>cases e;exact .lst h
 |dic n h l c=>cases e;exact .dK h
 |scr n h=>
   cases e
   rcases h with h | ⟨o,h⟩
   ·exact .lst h
   ·exact .frz h
 | ref q=>
   unfold tyOf at e
   dsimp only at e
   split at e
   ·rename_i l hl
    cases e
    obtain⟨xs,h,_⟩:=j.obj _ _ _ q hl
    exact .lst h
   ·rename_i ks l hl
    cases e
    obtain⟨xs,h,_⟩:=j.obj _ _ _ q hl
    exact .dK h
   ·cases e
 |_=>cases e
def w5(t c:String):Bool:=t==c || (t=="bool"&&c=="int")
def tys:List String:=["NoneType", "bool", "int", "str", "tuple", "list", "dict"]
def fK:List D->Mo->Option D
 |[d,.ty c],M=>(tyOf d M).bind fun t=>if tys.contains c then some (.bl (w5 t c)) else none
 |_,_=>none
theorem Bk{d:D}{t:String}(e:tyOf d M=some t):t∈tys:=by
 unfold tyOf at e
 split at e<;>first | (cases e;decide) | (split at e<;>first | (cases e;decide) | cases e) | cases e
theorem Fx{K:PySem.W.Frag}:∀t∈tys,∀c∈tys,PySem.W.kitOne K (.type t) (.type c)=some (w5 t c):=by
 intro t ht c hc
 simp only[tys,List.mem_cons,List.mem_nil_iff,or_false] at ht hc
 rcases ht with rfl | rfl | rfl | rfl | rfl | rfl | rfl<;>rcases hc with rfl | rfl | rfl | rfl | rfl | rfl | rfl<;>rfl
theorem bU:CallD X E (.builtin "isinstance") (fun l=>rd (fK l)):=CallD.of zQ fun vs H Q ρ M ds d j c e q=>by
 unfold fK at e
 split at e
 ·obtain⟨t,h1,e1⟩:=Option.bind_eq_some_iff.mp e
  split at e1
  ·rename_i hk
   cases e1
   obtain⟨v,w,rfl,k,c2⟩:=c.two
   replace c:=k
   cases c2
   exact⟨_,_,_,_,rfl,Ik j c h1,Fx _ (Bk h1) _ (List.contains_iff_mem.mp hk),q ρ H _ .refl j (.bl _)⟩
  ·cases e1
 ·cases e
def xx(X:Cx)(E:XK)(id:String)(g:D->List D->DM D):Prop:=MtR X id (fun x vs H Q=>∃ρ M d ds,J X.mg ρ M H∧Cv X.mg ρ H x d∧Cvs X.mg ρ H vs ds∧Go X.mg E (Cv X.mg) Q ρ H (g d ds) M)
def zM:D->List D->DM D
 |.ref n,[v]=>fun M=>match M[n]? with
   |some (.lst l)=>if l.length<sizeLine then some (.ok .non,M.set n (.lst (l++[v]))) else none
   |_=>none
 |_,_=>stuck
theorem uW:xx X E "list.append" zM:=by
 intro pins s σ H x xs v us Q I rx rs q
 obtain⟨ρ,M,d,ds,j,cx,cs,r,e,p⟩:=q
 cases cx with
 | ref hn=>
   cases cs with
   |nil=>cases e
   | cons c cs=>cases cs with
     |cons _ _=>cases e
     | nil=>
       rename_i n a w dw
       have e:(match M[n]? with
        |some (.lst l)=>if l.length<sizeLine then some (R.ok .non,M.set n (.lst (l++[dw]))) else none
        |_=>none)=some r:=e
       split at e
       ·rename_i l hl
        split at e
        ·cases e
         obtain⟨xs,hx,cl⟩:=j.obj _ _ _ hn hl
         have x:Ext ρ H ρ (upd H a (.lst (xs++[w]))):=.upd (List.mem_of_getElem? hn)
         exact mt_append (X:=X) pins s σ H _ _ v us Q I rx rs ⟨_,_,_,rfl,rfl,hx,by rw[cl.len];assumption,p ρ _ .non x (j.upd hn ⟨_,upd_same,(cl.append (.cons c .nil)).mono x⟩) .non⟩
        ·cases e
       ·cases e
 |_=>cases e
def Bc:D->List D->DM D
 | .ref n,[.int i]=>fun M=>match M[n]? with
   | some (.lst l)=>match ixN l.length i with
     |some k=>match l[k]? with
       |some d=>if decide (-(2^63)≤i∧i<2^63) then some (.ok d,M.set n (.lst (l.eraseIdx k))) else none
       |none=>none
     |none=>none
   |_=>none
 |_,_=>stuck
theorem Cvs.erase:∀{vs:List V}{ds:List D} (i:Nat),Cvs mg ρ H vs ds->Cvs mg ρ H (vs.eraseIdx i) (ds.eraseIdx i)
 |_,_,_,.nil=>.nil
 |_,_,0,.cons _ t=>t
 |_,_,i+1,.cons a t=>.cons a (Cvs.erase i t)
theorem De:xx X E "list.pop" Bc:=by
 intro pins s σ H x xs v us Q I rx rs q
 obtain⟨ρ,M,d,ds,j,cx,cs,r,e,p⟩:=q
 cases cx with
 | ref hn=>
   cases cs with
   |nil=>cases e
   | cons c cs=>cases cs with
     |cons _ _=>cases c<;>cases e
     | nil=>cases c with
       | int i=>
         rename_i n a
         have e:(match M[n]? with
          | some (.lst l)=>match ixN l.length i with
            |some k=>match l[k]? with
              |some d=>if decide (-(2^63)≤i∧i<2^63) then some (R.ok d,M.set n (.lst (l.eraseIdx k))) else none
              |none=>none
            |none=>none
          |_=>none)=some r:=e
         split at e
         ·rename_i l hl
          split at e
          ·rename_i k hk
           split at e
           ·rename_i d hd
            split at e
            ·rename_i hb
             have hb:=of_decide_eq_true hb
             cases e
             obtain⟨xs,hx,cl⟩:=j.obj _ _ _ hn hl
             obtain⟨w,hw,cw⟩:=cl.get hd
             have x:Ext ρ H ρ (upd H a (.lst (xs.eraseIdx k))):=.upd (List.mem_of_getElem? hn)
             exact mt_popAt (X:=X) pins s σ H _ _ v us Q I rx rs ⟨_,_,_,k,w,rfl,rfl,hx,hb.1,hb.2,by rw[cl.len];exact (ixN_seq hk).1,hw,p ρ _ w x (j.upd hn ⟨_,upd_same,(cl.erase k).mono x⟩) (cw.mono x)⟩
            ·cases e
           ·cases e
          ·cases e
         ·cases e
       |_=>cases e
 |_=>cases e
theorem oO {name id:String}{g:D->List D->DM D}{o e:Expr}{es:List Expr}{fo:aa->DM D}{fs:aa->DM (List D)}{apos cpos:Pos} (pa:PlainAttrs "list") (slot:Slot "list" name id) (hty:typeOf (.builtin id)=pure (.type "method_descriptor")) (hm:xx X E id g) (ho:DE X E o fo) (ha:DA X E (e::es) fs)
  (hbase:attributeBase o name X.env (eval o X.env)=eval o X.env:=by rfl)
  (hfew:((backTo cpos (starEach (e::es) X.env)).all (fun x=>!x.1)&&(backToKw cpos (keywordEach [] X.env)).all (fun x=>x.1.isSome)
   &&decide ((e::es).length+([]:List Keyword).length+(if ([]:List Keyword).isEmpty then 0 else 1)<30))=true:=by rfl)
  (hline:(apos.endLine==cpos.line)=true:=by rfl) (hs:notStar e=true:=by rfl) (hplain:(backTo cpos (starEach es X.env)).any (·.1)=false:=by rfl) :
  DE X E (.Call (.Attribute o name apos) (e::es) [] cpos) (fun δ=>fo δ>>=fun x=>rd (fun M=>aN x M)>>=fun _=>fs δ>>=fun xs=>g x xs):=⟨PE.mono (Gk pa slot hty hm ho.h ha.h hbase hfew hline hs hplain) fun σ H Q h=>by
 obtain⟨ρ,δ,M,ev,j,g1⟩:=h
 refine⟨ρ,δ,M,ev,j,g1.bind fun ρ1 H1 M1 x dx e1 j1 c1 g2=>?_⟩
 obtain⟨l,hl,g3⟩:=Go.rdb g2
 obtain⟨a,xs,rfl,hx,cl⟩:=b8 j1 c1 hl
 exact⟨.inl ⟨rfl,_,SqL.of hx⟩,ρ1,δ,M1,ev.mono e1,j1,g3.bind fun ρ2 H2 M2 ys dys e2 j2 c2 g4=>⟨ρ2,M2,dx,dys,j2,c1.mono e2,c2,g4⟩⟩⟩
end
structure ExtB(acc:Addr)(ρ:Rh)(H:Hp)(ρ':Rh)(H':Hp):Prop where
 pre:∃τ,ρ'.st=ρ.st++τ
 vo:ρ'.vo=ρ.vo
 new:∀a,a∈ρ'.st->a∉ρ.st->H a=none
 keep:∀a o,H a=some o->a∉ρ.st->a≠acc->H' a=some o
 na:acc∉ρ'.st
section
variable{acc:Addr}{ρ ρ1 ρ2:Rh}{H H1 H2:Hp}
theorem ExtB.trans (e:ExtB acc ρ H ρ1 H1) (f:ExtB acc ρ1 H1 ρ2 H2):ExtB acc ρ H ρ2 H2:=by
 have out:∀a o,H a=some o->a∉ρ.st->a∉ρ1.st:=fun a o h n z=>by have:=e.new a z n;rw[h] at this;cases this
 refine⟨?_,f.vo.trans e.vo,fun a h n=>?_,fun a o h n na=>f.keep a o (e.keep a o h n na) (out a o h n) na,f.na⟩
 ·obtain⟨τ,h1⟩:=e.pre
  obtain⟨υ,h2⟩:=f.pre
  exact⟨τ++υ,by rw[h2,h1,List.append_assoc]⟩
 ·by_cases z:a∈ρ1.st
  ·exact e.new a z n
  ·cases q:H a with
   |none=>rfl
   |some o=>
     have:=f.new a h z
     rw[e.keep a o q n (fun y=>f.na (y ▸ h))] at this;cases this
theorem Ext.b(e:Ext ρ H ρ1 H1)(na:acc∉ρ1.st):ExtB acc ρ H ρ1 H1:=⟨e.pre,e.vo,e.new,fun a o h n _=>e.keep a o h n,na⟩
theorem ExtB.kp(e:ExtB acc ρ H ρ1 H1)(h:acc∈ρ.vo):Kp ρ H ρ1 H1:=⟨e.pre,fun a o q n=>by
 have ne:a≠acc:=fun z=>n (z ▸ .inr h)
 have ns:a∉ρ.st:=fun z=>n (.inl z)
 refine⟨fun z=>?_,e.keep a o q ns ne⟩
 rcases z with z | z
 ·have:=e.new a z ns
  rw[q] at this;cases this
 ·rw[e.vo] at z;exact n (.inr z)⟩
theorem ExtB.refl(na:acc∉ρ.st):ExtB acc ρ H ρ H:=(Ext.refl).b na
theorem ExtB.grow{ys:List V}(na:acc∉ρ.st):ExtB acc ρ H ρ (upd H acc (.lst ys)):=⟨⟨[],by simp⟩,rfl,fun a h n=>absurd h n,fun a o h _ ne=>by rw[upd_ne ne];exact h,na⟩
end
structure Cst(X:Cx)(pins:List (Addr×Obj))(acc:Addr)(ρ0:Rh)(H0:Hp)(δ:aa)(l:List D)(M:Mo)(fp:List Addr)(s:Shared):Prop where
 ex:∃σ H ρ ys,Inv X pins σ H s∧ExtB acc ρ0 H0 ρ H∧J X.mg ρ M H∧Ev X.mg ρ H σ δ∧H acc=some (.lst ys)∧Cvs X.mg ρ H ys l∧∀b∈fp,H b=none
def bf(fg:D->aa->DM aa)(ft:aa->DM Bool)(fb:aa->List D->DM (aa×List D)):List D->aa->List D->DM (aa×List D)
 |[],δ,l=>pure (δ,l)
 |d::ds,δ,l=>fg d δ>>=fun δ1=>ft δ1>>=fun b=>(if b then fb δ1 l else pure (δ1,l))>>=fun p=>bf fg ft fb ds p.1 p.2
def o9 (fg:D->aa->DM aa) (ft:aa->DM Bool) (fb:aa->List D->DM (aa×List D)) (n:Nat):Nat->Nat->aa->List D->DM (aa×List D)
 |0,_,_,_=>stuck
 |k+1,i,δ,l=>rd (Itn.next (.dyn n) i)>>=fun o=>match o with
   |none=>pure (δ,l)
   |some d=>fg d δ>>=fun δ1=>ft δ1>>=fun b=>(if b then fb δ1 l else pure (δ1,l))>>=fun p=>o9 fg ft fb n k (i+1) p.1 p.2
def cz(fg:D->aa->DM aa)(ft:aa->DM Bool)(fb:aa->List D->DM (aa×List D)):Itn->aa->List D->DM (aa×List D)
 |.fix ds,δ,l=>bf fg ft fb ds δ l
 |.dyn n,δ,l=>rd (fun M=>aN (.ref n) M)>>=fun m=>o9 fg ft fb n (m.length+1) 0 δ l
def bO(fe:aa->DM D)(δ:aa)(l:List D):DM (aa×List D):=fe δ>>=fun d=>if l.length<sizeLine then pure (δ,l++[d]) else stuck
def JH(X:Cx)(ifs:List Expr)(t:TT):Prop:=∀(pins:List (Addr×Obj)) (s:Shared) (σ:L2.St) (H:Hp) (Q:Bool->Hp->Prop),Inv X pins σ H s->t σ H Q->wpAny (model X.prog X.w) X.A (mJ ifs X.env) (TP X pins σ Q) X.xe s
structure DTs(X:Cx)(E:XK)(ifs:List Expr)(f:aa->DM Bool):Prop where
 h:JH X ifs (tD X.mg E Bv f)
theorem lU{X:Cx}{E:XK}:DTs X E [] (fun _=>pure true):=⟨fun pins s σ H Q I h=>by
 obtain⟨ρ,δ,M,ev,j,g⟩:=h
 exact wpAny_pure ⟨H,I,g.pure ρ H true .refl j rfl⟩⟩
theorem pX{X:Cx}{E:XK}{c:Expr}{f:aa->DM Bool}(hc:DT X E c f):DTs X E [c] f:=⟨fun pins s σ H Q I h=>wpAny_tests_one (hc.h pins s σ H Q I h)⟩
theorem DM.bind_ok{α β:Type}{m:DM α}{k:α->DM β}{M M':Mo}{b:β}(h:(m>>=k) M=some (.ok b,M')):∃a M1,m M=some (.ok a,M1)∧k a M1=some (.ok b,M'):=by
 have h:DM.bind m k M=some (.ok b,M'):=h
 unfold DM.bind at h
 split at h
 ·cases h
 ·cases h
 ·rename_i a M1 e
  exact⟨a,M1,e,h⟩
def BodyOk(X:Cx)(acc:Addr)(W:(Shared->Prop)->Shared->Prop)(fb:aa->List D->DM (aa×List D)):Prop:=
 ∀pins ρ0 H0 δ l M s δ' l' M',acc∈ρ0.vo->Cst X pins acc ρ0 H0 δ l M [] s->fb δ l M=some (.ok (δ',l'),M')->W (fun s'=>Cst X pins acc ρ0 H0 δ' l' M' [] s') s
theorem Cst.unpin{X:Cx}{pins pl:List (Addr×Obj)}{acc:Addr}{ρ0:Rh}{H0:Hp}{δ:aa}{l:List D}{M:Mo}{s:Shared}{fp:List Addr}(c:Cst X (pins++pl) acc ρ0 H0 δ l M [] s)(h:∀b∈fp,∃o,(b,o)∈pl) :
  Cst X pins acc ρ0 H0 δ l M fp s∧∀p∈pl,s.heap.get? p.1=some p.2:=by
 obtain⟨σ,H,ρ,ys,I,x,j,ev,ha,cl,_⟩:=c.ex
 refine⟨⟨σ,H,ρ,ys,I.unpinned,x,j,ev,ha,cl,fun b hb=>?_⟩,fun p hp=>(I.pin p (List.mem_append_right _ (List.mem_append_right _ hp))).1⟩
 obtain⟨o,ho⟩:=h b hb
 exact (I.pin (b,o) (List.mem_append_right _ (List.mem_append_right _ ho))).2.1
def qK(fg:D->aa->DM aa)(ft:aa->DM Bool)(fb:aa->List D->DM (aa×List D))(δf:aa)(lf:List D)(Mf:Mo):Itn->Nat->Nat->aa->List D->Mo->Prop
 |.fix ds,n,i,δ,l,M=>n=ds.length-i∧bf fg ft fb (ds.drop i) δ l M=some (.ok (δf,lf),Mf)
 |.dyn a,n,i,δ,l,M=>o9 fg ft fb a n i δ l M=some (.ok (δf,lf),Mf)
theorem qK.step {fg:D->aa->DM aa}{ft:aa->DM Bool}{fb:aa->List D->DM (aa×List D)}{δf δ:aa}{lf l:List D}{Mf M:Mo}{it:Itn}{n i:Nat} (h:qK fg ft fb δf lf Mf it n i δ l M) :
  (it.next i M=some none∧δ=δf∧l=lf∧M=Mf)∨∃d δ1 M1 b M2 δ3 l3 M3 m,it.next i M=some (some d)∧fg d δ M=some (.ok δ1,M1)∧ft δ1 M1=some (.ok b,M2)∧(if b then fb δ1 l else pure (δ1,l)) M2=some (.ok (δ3,l3),M3)∧m<n∧qK fg ft fb δf lf Mf it m (i+1) δ3 l3 M3:=by
 cases it with
 | fix ds=>
   obtain⟨rfl,h⟩:=h
   cases hd:ds[i]? with
   |none=>
     rw[List.drop_eq_nil_of_le (List.getElem?_eq_none_iff.mp hd)] at h
     cases h
     exact .inl ⟨congrArg some hd,rfl,rfl,rfl⟩
   |some d=>
     obtain⟨hi',hd'⟩:=List.getElem?_eq_some_iff.mp hd
     have hl:ds.drop i=d::ds.drop (i+1):=by rw[←hd'];exact List.drop_eq_getElem_cons hi'
     rw[hl] at h
     obtain⟨δ1,M1,e1,h1⟩:=DM.bind_ok h
     obtain⟨b,M2,e2,h2⟩:=DM.bind_ok h1
     obtain⟨⟨δ3,l3⟩,M3,e3,h3⟩:=DM.bind_ok h2
     exact .inr ⟨d,δ1,M1,b,M2,δ3,l3,M3,ds.length-(i+1),congrArg some hd,e1,e2,e3,by omega,rfl,h3⟩
 | dyn a=>
   cases n with
   |zero=>cases h
   | succ n=>
     obtain⟨o,M0,e0,h⟩:=DM.bind_ok h
     obtain⟨o',q,z⟩:=Option.map_eq_some_iff.mp e0
     cases z
     cases o with
     |none=>cases h;exact .inl ⟨q,rfl,rfl,rfl⟩
     |some d=>
       obtain⟨δ1,M1,e1,h1⟩:=DM.bind_ok h
       obtain⟨b,M2,e2,h2⟩:=DM.bind_ok h1
       obtain⟨⟨δ3,l3⟩,M3,e3,h3⟩:=DM.bind_ok h2
       exact .inr ⟨d,δ1,M1,b,M2,δ3,l3,M3,n,q,e1,e2,e3,Nat.lt_succ_self _,h3⟩
theorem qK.start {fg:D->aa->DM aa}{ft:aa->DM Bool}{fb:aa->List D->DM (aa×List D)}{δf δ:aa}{lf l:List D}{Mf M:Mo}{it:Itn} (h:cz fg ft fb it δ l M=some (.ok (δf,lf),Mf)):∃ n,qK fg ft fb δf lf Mf it n 0 δ l M:=by
 cases it with
 |fix ds=>exact⟨_,rfl,h⟩
 |dyn a=>
   obtain⟨m,M0,e0,h⟩:=DM.bind_ok h
   obtain⟨m',q,z⟩:=Option.map_eq_some_iff.mp e0
   cases z
   exact⟨_,h⟩
theorem yJ {X:Cx} (hc:X.calm=true) (hxe:X.xe=fun _ _=>False) {elt:Expr}{gens:List Comprehension}{scope:Scope}{pos:Pos}{depth:Nat}{g:Comprehension}{bodyK:Sem Fin->Sem Fin}{W:(Shared->Prop)->Shared->Prop}{it acc:Addr}
  (hturn:compTurn (.ListComp elt gens scope pos) depth (.ref it) (.ref acc) X.env=turnOf g bodyK (.compLoop (.ListComp elt gens scope pos) depth (.ref it) (.ref acc) X.env) (.ref it) X.env) (hW:oh X.prog X.w X.A bodyK W) (hmono:∀P P' s,(∀s,P s->P' s)->W P s->W P' s)
  {fg:D->aa->DM aa}{ft:aa->DM Bool}{fb:aa->List D->DM (aa×List D)} (hg:DG X E0 g.target fg) (ht:DTs X E0 g.ifs ft) (hb:BodyOk X acc W fb)
  {Jt:It}{fp:List Addr}{tn:Nat->Heap->Prop} (T:Turn X.prog X.w X.K g.target Jt fp it tn) {itn:Itn}{ρi ρ0:Rh}{Hi H0:Hp} (iok:ItOk X.mg ρi Hi Jt itn) (hacc:acc∈ρ0.vo) (kp0:Kp ρi Hi ρ0 H0) {pins:List (Addr×Obj)}
  (fok:∀H',(∀b∈fp,H' b=none)->∀b∈fp,FpOk X pins H' b) {δ:aa}{l:List D}{M:Mo}{s:Shared} (st:Cst X pins acc ρ0 H0 δ l M fp s) (htn:tn 0 s.heap) {δf:aa}{lf:List D}{Mf:Mo} (hrun:cz fg ft fb itn δ l M=some (.ok (δf,lf),Mf))
  {R:Result->Shared->Prop} (hR:∀s',Cst X pins acc ρ0 H0 δf lf Mf fp s'->R (.ok .next) s') :
  codeAny (model X.prog X.w) X.A (.compLoop (.ListComp elt gens scope pos) depth (.ref it) (.ref acc) X.env) R s:=by
 obtain⟨n0,rem0⟩:=qK.start hrun
 refine Am (fun n s=>∃i δ l M,qK fg ft fb δf lf Mf itn n i δ l M∧Cst X pins acc ρ0 H0 δ l M fp s∧tn i s.heap) hturn hW ?_ hmono n0 ⟨0,δ,l,M,rem0,st,htn⟩
 rintro n s ⟨i,δ,l,M,rem,st,htn⟩
 obtain⟨σ,H,ρ,ys,I,x,j,ev,ha,cl,fr⟩:=st.ex
 have kp:Kp ρi Hi ρ H:=kp0.trans (x.kp hacc)
 rcases rem.step with ⟨hd,rfl,rfl,rfl⟩ | ⟨d,δ1,M1,b,M2,δ3,l3,M3,m,hd,e1,e2,e3,hm,rem3⟩
 ·refine wpAny_mono (T.done X rfl rfl rfl hc i pins s σ H _ I (fok H fr) htn (iok.stop i ρ H _ kp j hd)) (fun r s1 h1=>?_) fun _ _ z=>z
  obtain⟨rfl,I1⟩:=h1
  exact hR s1 ⟨σ,H,ρ,ys,I1,x,j,ev,ha,cl,fr⟩
 ·obtain ⟨go,yl⟩:=iok.item i ρ H M d kp j hd
  refine wpAny_mono (T.item X rfl rfl rfl hc i pins s σ H (fun _ _=>False) I (fok H fr) htn go) (fun r s1 h1=>?_) fun _ _ z=>z
  obtain⟨u,rfl,h1⟩:=h1
  refine wpAny_mono h1 (fun _ s2 h2=>?_) fun _ _ z=>z
  obtain⟨xv,H5,I5,r5,y5,tn5,fr5⟩:=h2
  obtain⟨x5,j5,c5⟩:=yl xv H5 y5
  have I5':=I5.pinned (fok H5 fr5) (T.obj _ _ tn5)
  refine wpAny_mono (hg.h _ s2 σ H5 xv u (fun σ6 H6=>∃ρ6,Ext ρ H5 ρ6 H6∧J X.mg ρ6 M1 H6∧Ev X.mg ρ6 H6 σ6 δ1) I5' r5 ⟨ρ,δ,M,d,ev.mono x5,j5,c5,_,e1,fun ρ6 H6 σ6 a1 a2 a3=>⟨ρ6,a1,a2,a3⟩⟩) (fun _ s3 h3=>?_) fun _ _ z=>by rw[hxe] at z;exact z
  obtain⟨σ6,H6,I6,ρ6,x6,j6,ev6⟩:=h3
  refine wpAny_mono (ht.h _ s3 σ6 H6 (fun b' H7=>b'=b∧∃ρ7,Ext ρ6 H6 ρ7 H7∧J X.mg ρ7 M2 H7) I6 ⟨ρ6,δ1,M1,ev6,j6,_,e2,fun ρ7 H7 b' a1 a2 a3=>⟨a3,ρ7,a1,a2⟩⟩) (fun ok s4 h4=>?_) fun _ _ z=>by rw[hxe] at z;exact z
  obtain⟨H7,I7,rfl,ρ7,x7,j7⟩:=h4
  have nacc:acc∉ρ.st:=x.na
  have na6:acc∉ρ6.st:=fun z=>by
   have h5:=x5.keep acc _ ha nacc
   have:=x6.new acc z nacc
   rw[h5] at this;cases this
  have ha5:=x5.keep acc _ ha nacc
  have ha6:=x6.keep acc _ ha5 nacc
  have na7:acc∉ρ7.st:=fun z=>by
   have:=x7.new acc z na6
   rw[ha6] at this;cases this
  have ha7:=x7.keep acc _ ha6 na6
  have xb:ExtB acc ρ0 H0 ρ7 H7:=((x.trans (x5.b nacc)).trans (x6.b na6)).trans (x7.b na7)
  have ct:Cst X (pins++pinsAt fp s2.heap) acc ρ0 H0 δ1 l M2 [] s4:=⟨σ6,H7,ρ7,ys,I7,xb,j7,ev6.mono x7,ha7,((cl.mono x5).mono x6).mono x7,fun b hb=>nomatch hb⟩
  have fin:∀s5,Cst X (pins++pinsAt fp s2.heap) acc ρ0 H0 δ3 l3 M3 [] s5->∃m,m<n∧∃i δ l M,qK fg ft fb δf lf Mf itn m i δ l M∧Cst X pins acc ρ0 H0 δ l M fp s5∧tn i s5.heap:=fun s5 c5=>by
   obtain⟨c6,pp⟩:=c5.unpin (fp:=fp) fun b hb=>by
    obtain⟨o,eo,_⟩:=T.obj _ _ tn5 b hb
    exact⟨o,mem_pinsAt hb eo⟩
   exact⟨m,hm,i+1,δ3,l3,M3,rem3,c6,T.keep _ _ _ tn5 fun b hb o eo=>pp (b,o) (mem_pinsAt hb eo)⟩
  cases ok with
  |true=>exact iteT (hmono _ _ _ fin (hb _ ρ0 H0 δ1 l M2 s4 δ3 l3 M3 hacc ct e3))
  |false=>
    cases e3
    exact iteF (fin s4 ct)
theorem uR{X:Cx}(hxe:X.xe=fun _ _=>False){elt:Expr}{fe:aa->DM D}{acc:Addr}(he:DE X E0 elt fe) :
  BodyOk X acc (fun P s=>wpAny (model X.prog X.w) X.A (eval elt X.env) (fun x s1=>wpAny (model X.prog X.w) X.A (call (.builtin "list.append") [.ref acc,x]) (fun _ s2=>P s2) (fun _ _=>False) s1) (fun _ _=>False) s) (bO fe):=by
 intro pins ρ0 H0 δ l M s δ' l' M' hacc ct e
 obtain⟨d,M1,e1,e2⟩:=DM.bind_ok e
 obtain⟨σ,H,ρ,ys,I,x,j,ev,ha,cl,_⟩:=ct.ex
 split at e2
 rotate_left
 ·cases e2
 rename_i hz
 cases e2
 refine wpAny_mono (he.h pins s σ H (fun v H1=>∃ρ1,Ext ρ H ρ1 H1∧J X.mg ρ1 M' H1∧Cv X.mg ρ1 H1 v d) I ⟨ρ,δ,M,ev,j,_,e1,fun ρ1 H1 v a1 a2 a3=>⟨ρ1,a1,a2,a3⟩⟩) (fun u s1 h1=>?_) fun _ _ z=>by rw[hxe] at z;exact z
 obtain⟨v,H1,I1,rv,ρ1,x1,j1,c1⟩:=h1
 have nacc:acc∉ρ.st:=x.na
 have ha1:=x1.keep acc _ ha nacc
 have na1:acc∉ρ1.st:=fun z=>by
  have:=x1.new acc z nacc
  rw[ha] at this;cases this
 have hv1:acc∈ρ1.vo:=by rw[x1.vo,x.vo];exact hacc
 refine wpAny_mono (mt_append (X:=X) pins s1 σ H1 (.ref acc) [v] (.ref acc) [u] (fun _ H'=>H'=upd H1 acc (.lst (ys++[v]))) I1 rfl (.cons rv .nil) ⟨_,ys,v,rfl,rfl,ha1,by rw[cl.len];exact hz,rfl⟩) (fun _ s2 h2=>?_) fun _ _ z=>by rw[hxe] at z;exact z
 obtain⟨_,H2,I2,_,rfl⟩:=h2
 exact⟨σ,_,ρ1,ys++[v],I2,(x.trans (x1.b na1)).trans (.grow na1),j1.grow hv1,(ev.mono x1).kp ((ExtB.grow na1).kp hv1),upd_same,((cl.mono x1).append (.cons c1 .nil)).hold hv1,fun b hb=>nomatch hb⟩
def bY{α:Type}(m:DM α):DM α:=fun M=>match m M with
 |some (.ok a,M')=>some (.ok a,M')
 |_=>none
theorem fB{α:Type}{m:DM α}{M:Mo}{r:R α×Mo}(h:bY m M=some r):∃a M',m M=some (.ok a,M')∧r=(.ok a,M'):=by
 unfold bY at h
 split at h
 ·rename_i a M' e
  cases h
  exact⟨a,M',e,rfl⟩
 ·cases h
def bz(js:List Nat)(δ:aa):aa:=js.map fun j=>(δ[j]?).getD none
def aW(k:Nat)(js:List Nat)(δ:aa):aa:=List.replicate k none++bz js δ
theorem lV {mg:Str->Option Value}{ρ:Rh}{H:Hp}{σ:L2.St}{δ:aa} (ev:Ev mg ρ H σ δ) (k:Nat) (js:List Nat):Ev mg ρ H (List.replicate k none++pick js σ) (aW k js δ):=by
 unfold aW pick bz
 refine⟨by simp,fun i d q=>?_⟩
 by_cases hi:i<k
 ·rw[List.getElem?_append_left (by rw[List.length_replicate];exact hi),List.getElem?_replicate] at q
  split at q<;>cases q
 ·rw [List.getElem?_append_right (by rw [List.length_replicate];omega),List.length_replicate,List.getElem?_map] at q ⊢
  cases hj:js[i-k]? with
  |none=>rw[hj] at q;cases q
  | some j=>
    rw[hj] at q
    have q:(δ[j]?).getD none=some d:=Option.some.inj q
    have q':δ[j]?=some (some d):=by
     cases z:δ[j]? with
     |none=>rw[z] at q;cases q
     |some o=>rw[z] at q;exact congrArg some q
    obtain⟨v,h1,h2⟩:=ev.val j d q'
    exact⟨v,by show some ((σ[j]?).getD none)=_;rw[h1];rfl,h2⟩
theorem eO{ρ:Rh}{H:Hp}{p:Addr}{o:HO}(hp:H p=none):Kp ρ H (ρ.hold p) (upd H p o):=⟨⟨[],by show ρ.st=_;simp⟩,fun a u h n=>⟨Rh.nhold n (ne_of_none h hp),by rw[upd_ne (ne_of_none h hp)];exact h⟩⟩
inductive Out where
 |val | sto
def Out.run:Out->List D->DM D
 |.val,l=>pure (.lst l)
 |.sto,l=>fun M=>some (.ok (.ref M.length),M++[.lst l])
theorem Out.fin {mg:Str->Option Value}{E:XK}{Q:VK}{ρ1 ρ4:Rh}{H2 H4:Hp}{acc:Addr}{M:Mo}{ys:List V}{l:List D} (o:Out) (hf:H2 acc=none) (hn:acc∉ρ1) (x:ExtB acc (ρ1.hold acc) (upd H2 acc (.lst [])) ρ4 H4) (j:J mg ρ4 M H4) (ha:H4 acc=some (.lst ys)) (c:Cvs mg ρ4 H4 ys l)
  (g:Go mg E (Cv mg) Q ρ1 H2 (o.run l) M):Q (.ref acc) H4:=by
 have hv:ρ4.vo=acc::ρ1.vo:=x.vo
 have na:acc∉ρ1.vo:=fun z=>hn (.inr z)
 have nw:∀a,a∈ρ4.st->a∉ρ1.st->H2 a=none:=fun a h n=>by
  have:=x.new a h n
  by_cases z:a=acc
  ·rw[z,upd_same] at this;cases this
  ·rw[upd_ne z] at this;exact this
 have kp:∀a o,H2 a=some o->a∉ρ1.st->H4 a=some o:=fun a o h n=>x.keep a o (by rw[upd_ne (ne_of_none h hf)];exact h) n (ne_of_none h hf)
 cases o with
 | val=>
   have e:Ext ρ1 H2 ⟨ρ4.st,ρ1.vo⟩ H4:=⟨x.pre,rfl,nw,kp⟩
   have jd:J mg ⟨ρ4.st,ρ1.vo⟩ M H4:=J.done (ρ:=ρ1) j hv
   have cd:Cvs mg ⟨ρ4.st,ρ1.vo⟩ H4 ys l:=Cvs.less (ρ:=ρ4) (ρ1:=⟨ρ4.st,ρ1.vo⟩) rfl (fun a h=>by rw[hv];exact .tail _ h) c
   exact Go.pure (a:=D.lst l) g ⟨ρ4.st,ρ1.vo⟩ H4 (.ref acc) e jd (.lst (fun z=>by
    rcases z with z | z
    ·exact x.na z
    ·exact na z) ha cd)
 | sto=>
   obtain⟨r,er,p⟩:=g
   cases er
   have k4:Kp ρ4 H4 ⟨ρ4.st++[acc],ρ1.vo⟩ H4:=⟨⟨[acc],rfl⟩,fun a o h n=>⟨fun z=>by
    rcases z with z | z
    ·rcases List.mem_append.mp z with z | z
     ·exact n (.inl z)
     ·exact n (.inr (by rw[hv,List.mem_singleton.mp z];exact .head _))
    ·exact n (.inr (by rw[hv];exact .tail _ z)),h⟩⟩
   have e:Ext ρ1 H2 ⟨ρ4.st++[acc],ρ1.vo⟩ H4:=by
    refine⟨?_,rfl,fun a h n=>?_,kp⟩
    ·obtain⟨τ,h1⟩:=x.pre
     exact⟨τ++[acc],by show ρ4.st++[acc]=_;rw[h1,List.append_assoc];rfl⟩
    ·rcases List.mem_append.mp h with z | z
     ·exact nw a z n
     ·rw[List.mem_singleton.mp z];exact hf
   have jd:J mg ⟨ρ4.st++[acc],ρ1.vo⟩ (M++[.lst l]) H4:=by
    refine⟨by show (ρ4.st++[acc]).length=_;rw[List.length_append,List.length_append,j.len];rfl,?_,fun n a w h1 h2=>?_,fun a h=>?_⟩
    ·show (ρ4.st++[acc]).Nodup
     rw[List.nodup_append]
     exact⟨j.nd,by simp,fun x' hx y hy e=>by rw[List.mem_singleton.mp hy] at e;exact x.na (e ▸ hx)⟩
    ·have h1:(ρ4.st++[acc])[n]?=some a:=h1
     by_cases hl:n<ρ4.st.length
     ·rw[List.getElem?_append_left hl] at h1
      rw[List.getElem?_append_left (by rw[←j.len];exact hl)] at h2
      exact (j.obj n a w h1 h2).map rfl fun vs ds c=>c.kp k4
     ·have hl':n<(ρ4.st++[acc]).length:=(List.getElem?_eq_some_iff.mp h1).1
      rw[List.length_append] at hl'
      have e:n=ρ4.st.length:=by have:[acc].length=1:=rfl;omega
      subst e
      rw[List.getElem?_append_right (Nat.le_refl _)] at h1
      rw[j.len,List.getElem?_append_right (Nat.le_refl _)] at h2
      simp at h1 h2
      subst h1 h2
      exact⟨ys,ha,c.kp k4⟩
    ·have h:a∈ρ1.vo:=h
     obtain⟨y1,y2⟩:=j.vol a (by rw[hv];exact .tail _ h)
     refine⟨fun z=>?_,y2⟩
     rcases List.mem_append.mp z with z | z
     ·exact y1 z
     ·exact na (List.mem_singleton.mp z ▸ h)
   refine p _ H4 (.ref acc) e jd (.ref ?_)
   show (ρ4.st++[acc])[_]?=_
   rw[←j.len];simp
theorem zX {X:Cx}{E:XK}{scope:Scope}{cl:List (Str×Addr)}{own:List Str}{js:List Nat}{fr:List Str}{elt t0 i0:Expr}{f0:List Expr}{gs:List Comprehension}{pos:Pos}{fi:aa->DM Itn}{fg:D->aa->DM aa}{ft:aa->DM Bool}{fb:aa->List D->DM (aa×List D)}
  {bodyK:Cx->Addr->Sem Fin->Sem Fin}{W:Cx->Addr->(Shared->Prop)->Shared->Prop} (o:Out) (hc:X.calm=true) (T:CompG X scope cl own js fr) (hi:DI X E t0 i0 fi)
  (hturn:∀(Y:Cx) it acc,compTurn (.ListComp elt (⟨t0,i0,f0,0⟩::gs) scope pos) 0 (.ref it) (.ref acc) Y.env=turnOf ⟨t0,i0,f0,0⟩ (bodyK Y acc) (.compLoop (.ListComp elt (⟨t0,i0,f0,0⟩::gs) scope pos) 0 (.ref it) (.ref acc) Y.env) (.ref it) Y.env)
  (hW:∀Y acc,oh Y.prog Y.w Y.A (bodyK Y acc) (W Y acc)) (hmono:∀Y acc P P' s,(∀s,P s->P' s)->W Y acc P s->W Y acc P' s)
  (hg:∀pins m fp C s₂ H₂,DG (X.aP pins scope (cellsFrom m scope.names cl) (own++fr) fp C s₂ H₂) E0 t0 fg) (ht:∀pins m fp C s₂ H₂,DTs (X.aP pins scope (cellsFrom m scope.names cl) (own++fr) fp C s₂ H₂) E0 f0 ft)
  (hb:∀pins m fp C s₂ H₂ acc,BodyOk (X.aP pins scope (cellsFrom m scope.names cl) (own++fr) fp C s₂ H₂) acc (W (X.aP pins scope (cellsFrom m scope.names cl) (own++fr) fp C s₂ H₂) acc) fb)
  (hs:∀y,foldedSetIterable i0 X.env y=pure y:=by intro _;rfl) :
  DE X E (.ListComp elt (⟨t0,i0,f0,0⟩::gs) scope pos) (fun δ=>fi δ>>=fun it=>bY (cz fg ft fb it (aW own.length js δ) [])>>=fun p=>o.run p.2):=⟨by
 intro pins s σ H Q I h
 obtain⟨ρ,δ,M,ev,j,g1⟩:=h
 rw[eval_ListComp]
 refine wpAny_comprehension_free (cl:=cl) (use:=none) rfl hs T.clos T.kind T.names ?_
 refine thn (hi.h pins s σ H (fun Jt H1=>∃ρ1 M1 it,Ext ρ H ρ1 H1∧J X.mg ρ1 M1 H1∧ItOk X.mg ρ1 H1 Jt it∧Go X.mg E (Cv X.mg) Q ρ1 H1 (bY (cz fg ft fb it (aW own.length js δ) [])>>=fun p=>o.run p.2) M1) I
  ⟨ρ,δ,M,ev,j,g1.bind fun ρ1 H1 M1 Jt it e1 j1 iok g2=>⟨ρ1,M1,it,e1,j1,iok,g2⟩⟩) fun v s1 h1=>thn h1 fun itv s2 h2=>?_
 obtain⟨it,fp,tn,Jt,H2,rfl,I2,Tn,st2,f2,ρ1,M1,itn,x1,j1,iok,g2⟩:=h2
 have hrun:∃δf lf Mf,cz fg ft fb itn (aW own.length js δ) [] M1=some (.ok (δf,lf),Mf)∧Go X.mg E (Cv X.mg) Q ρ1 H2 (o.run lf) Mf:=by
  obtain⟨r,e,p⟩:=g2
  have e:DM.bind _ _ M1=some r:=e
  unfold DM.bind at e
  split at e
  ·cases e
  ·rename_i c M' em
   obtain⟨a,M'',_,z⟩:=fB em
   cases z
  ·rename_i a M' em
   obtain⟨a',M'',e1,z⟩:=fB em
   cases z
   exact⟨a.1,a.2,M',e1,r,e,p⟩
 obtain⟨δf,lf,Mf,hrun,g3⟩:=hrun
 unfold newList
 refine wpAny_newObj_type (lw ?_)
 have hlt:∀b∈fp,b<s2.heap.objs.size:=fun b hb=>by
  obtain⟨o,e,_⟩:=Tn.obj _ _ st2 b hb
  exact Heap.lt_size e
 dsimp only
 generalize hP:s2.heap.push { cls:=.type "list",dict:=none,data:=.seq ([]:List Value).toArray }=hp1
 have hCs:hp1.objs.size=s2.heap.objs.size+1:=by rw[←hP,Heap.size_push]
 have hCe:hp1.objs.size+1=(hp1.push { cls:=.type "dict",data:=.dict #[] }).objs.size:=by rw[Heap.size_push]
 have hC:s2.heap.objs.size≤hp1.objs.size:=by omega
 have hne:hp1.objs.size≠s2.heap.objs.size:=by omega
 have old1:∀b o,s2.heap.get? b=some o->hp1.get? b=some o:=fun b o e=>by rw[←hP];exact Heap.get?_push_of_some _ e
 have old:∀b o,s2.heap.get? b=some o->(pushCells (hp1.push { cls:=.type "dict",data:=.dict #[] }) scope.names).get? b=some o:=fun b o e=>pushCells_keeps _ _ _ _ (Heap.get?_push_of_some _ (old1 b o e))
 have new:∃n,(pushCells (hp1.push { cls:=.type "dict",data:=.dict #[] }) scope.names).get? s2.heap.objs.size=some { cls:=.type "list",data:=.seq #[] n }:=⟨_,pushCells_keeps _ _ _ _ (Heap.get?_push_of_some _ (by rw[←hP];exact Heap.get?_push_size _ rfl))⟩
 have ns:(pushCells (hp1.push { cls:=.type "dict",data:=.dict #[] }) scope.names).Ns hp1.objs.size fun _=>none:=(Heap.Ns.new hp1 (.type "dict")).keeps (pushCells_keeps _ _)
 have hfree:H2 s2.heap.objs.size=none:=I2.hok.fresh (Nat.le_refl _)
 have IC:=kj (t':=s2.toks) T I2 f2 hlt old (Nat.le_refl _) hC hne hCe (Nat.le_trans hC (Nat.le_succ _)) (Nat.lt_succ_self _) (Nat.lt_succ_of_le hC) rfl new ns
 have OK:=IC.ok
 have fok:∀H',(∀b∈fp,H' b=none)->∀b∈fp,FpOk (X.aP pins scope (cellsFrom (hp1.objs.size+1) scope.names cl) (own++fr) fp hp1.objs.size s2 H2) [] H' b:=fun H' hn b hb=>by
  obtain⟨_,g2,g3,g4,g5,g6⟩:=f2 b hb
  refine⟨hn b hb,Nat.ne_of_lt (Nat.lt_of_lt_of_le (hlt b hb) hC),fun hm=>?_,.inl hb,(OK.exf b hb).2,fun p hp=>g6 p (by simpa using hp)⟩
  rcases List.mem_cons.mp (I2.stkSub _ hm) with z | z
  ·exact g2 z
  ·exact g3 z
 have fp1:∀b∈fp,upd H2 s2.heap.objs.size (.lst []) b=none:=fun b hb=>by rw[upd_ne (Nat.ne_of_lt (hlt b hb))];exact (f2 b hb).1
 have jb:=j1.begin hfree
 have nf:=j1.fresh hfree
 have st:Cst (X.aP pins scope (cellsFrom (hp1.objs.size+1) scope.names cl) (own++fr) fp hp1.objs.size s2 H2) [] s2.heap.objs.size (ρ1.hold s2.heap.objs.size) (upd H2 s2.heap.objs.size (.lst [])) (aW own.length js δ) [] M1 fp
   { s2 with heap:=pushCells (hp1.push { cls:=.type "dict",data:=.dict #[] }) scope.names,toks:=s2.toks }:=
  ⟨_,_,_,[],IC,.refl (fun z=>nf (.inl z)),jb,(lV (ev.mono x1) _ _).kp (eO hfree),upd_same,.nil,fp1⟩
 have tn0:tn 0 (pushCells (hp1.push { cls:=.type "dict",data:=.dict #[] }) scope.names):=Tn.keep _ _ _ st2 (fun b _ o e=>old b o e)
 have loop:codeAny (model X.prog X.w) X.A (.compLoop (.ListComp elt (⟨t0,i0,f0,0⟩::gs) scope pos) 0 (.ref it) (.ref s2.heap.objs.size) (compEnvC scope (cellsFrom (hp1.objs.size+1) scope.names cl) hp1.objs.size X.env))
   (compPost (model X.prog X.w) X.A X.xe none (EP X pins σ Q) (.ref s2.heap.objs.size) hp1.objs.size) { s2 with heap:=pushCells (hp1.push { cls:=.type "dict",data:=.dict #[] }) scope.names,toks:=s2.toks }:=by
  refine yJ (X:=X.aP pins scope (cellsFrom (hp1.objs.size+1) scope.names cl) (own++fr) fp hp1.objs.size s2 H2) hc rfl (hturn _ _ _) (hW _ _) (hmono _ _) (hg ..) (ht ..) (hb pins (hp1.objs.size+1) fp hp1.objs.size s2 H2 s2.heap.objs.size) Tn iok (.head _) (eO hfree) fok st tn0 hrun fun s' c'=>?_
  obtain⟨σ4,H4,ρ4,ys,I4,x4,j4,ev4,ha4,cl4,fr4⟩:=c'.ex
  obtain⟨m4,hn4,_⟩:=I4.loc
  refine⟨m4,hn4,fun h' hsb'=>?_⟩
  have un:=uw I4.base hsb' hC
  have ok4:=pZ I4.hok hsb' I4.free
  exact⟨.ref s2.heap.objs.size,H4,I2.call' (s':={ s' with heap:=h' }) (ch:=fp) (I4.os) un ok4 I4.bare (fun b hb=>by
   obtain⟨_,g2,g3,g4,g5,g6⟩:=f2 b hb
   exact⟨g4,g2,g5,g6⟩),rfl,o.fin hfree nf x4 j4 ha4 cl4 g3⟩
 show codeAny _ _ (.compStart _ 0 (.ref it) (.ref s2.heap.objs.size) (compEnvC scope (cellsFrom (hp1.objs.size+1) scope.names cl) hp1.objs.size X.env)) _ _
 exact lL rfl rfl loop (Tn.self X.A 0 _ _ _ tn0 loop)⟩
theorem gA{X:Cx}{E:XK}{scope:Scope}{cl:List (Str×Addr)}{own:List Str}{js:List Nat}{fr:List Str}{elt t0 i0:Expr}{f0:List Expr}{pos:Pos}{fi:aa->DM Itn}{fg:D->aa->DM aa}{ft:aa->DM Bool}{fe:aa->DM D}
  (o:Out) (hc:X.calm=true) (T:CompG X scope cl own js fr) (hi:DI X E t0 i0 fi)
  (hg:∀pins m fp C s₂ H₂,DG (X.aP pins scope (cellsFrom m scope.names cl) (own++fr) fp C s₂ H₂) E0 t0 fg) (ht:∀pins m fp C s₂ H₂,DTs (X.aP pins scope (cellsFrom m scope.names cl) (own++fr) fp C s₂ H₂) E0 f0 ft)
  (he:∀pins m fp C s₂ H₂,DE (X.aP pins scope (cellsFrom m scope.names cl) (own++fr) fp C s₂ H₂) E0 elt fe)
  (hs:∀y,foldedSetIterable i0 X.env y=pure y:=by intro _;rfl) :
  DE X E (.ListComp elt [⟨t0,i0,f0,0⟩] scope pos) (fun δ=>fi δ>>=fun it=>bY (cz fg ft (bO fe) it (aW own.length js δ) [])>>=fun p=>o.run p.2):=
 zX (bodyK:=fun Y acc=>jm elt (.ref acc) Y.env) (W:=fun Y acc P s=>wpAny (model Y.prog Y.w) Y.A (eval elt Y.env) (fun x s1=>wpAny (model Y.prog Y.w) Y.A (call (.builtin "list.append") [.ref acc,x]) (fun _ s2=>P s2) (fun _ _=>False) s1) (fun _ _=>False) s) o hc T hi
  (fun Y it acc=>w6 ..) (fun Y acc=>xY) (fun Y acc P P' s hp h=>wpAny_mono h (fun x s1 h1=>wpAny_mono h1 (fun _ s2 h2=>hp _ h2) fun _ _ z=>z) fun _ _ z=>z) hg ht (fun pins m fp C s₂ H₂ acc=>uR rfl (he ..)) hs
theorem boot_zip:bootBuiltins "zip"=some (.type "zip"):=by decide +kernel
def frz:D->Option (Bool×List D)
 |.tup l=>some (true,l)
 |.lst l=>some (false,l)
 |_=>none
def pairs:List D->List D->List D
 |x::xs,y::ys=>.tup [x,y]::pairs xs ys
 |_,_=>[]
def uz:List D->Option Itn
 |[x,y]=>match frz x,frz y with
   |some (_,l),some (_,m)=>some (.fix (pairs l m))
   |_,_=>none
 |_=>none
theorem pairs_at:∀ (l m:List D) (i:Nat),(pairs l m)[i]?=match l[i]?,m[i]? with
  |some x,some y=>some (.tup [x,y])
  |_,_=>none
 |[],m,i=>by simp[pairs]
 |x::xs,[],i=>by
   cases i with
   |zero=>simp[pairs]
   |succ i=>simp only[pairs,List.getElem?_nil,List.getElem?_cons_succ];cases xs[i]?<;>rfl
 |x::xs,y::ys,0=>by simp[pairs]
 |x::xs,y::ys,i+1=>by simp only[pairs,List.getElem?_cons_succ];exact pairs_at xs ys i
section
variable{mg:Str->Option Value}{ρ:Rh}{H:Hp}
theorem yh{K:PySem.W.Frag}{x:V}{d:D}{b:Bool}{l:List D}(c:Cv mg ρ H x d)(e:frz d=some (b,l)):∃a xs,x=.ref a∧a∉ρ∧H a=some (if b then .tup xs else .lst xs)∧Cvs mg ρ H xs l:=by
 cases c with
 |tup n h c=>cases e;exact⟨_,_,rfl,n,h,c⟩
 |lst n h c=>cases e;exact⟨_,_,rfl,n,h,c⟩
 |_=>cases e
theorem qZ{K:PySem.W.Frag}{b:Bool}{a:Addr}{xs:List V}(h:H a=some (if b then .tup xs else .lst xs)):mO b K H a xs:=by
 cases b with
 |true=>exact SqT.of h
 |false=>exact SqL.of h
theorem Ft {K:PySem.W.Frag}{b1 b2:Bool}{l1 l2:Addr}{xs ys:List V}{ds es:List D} (n1:l1∉ρ) (n2:l2∉ρ) (h1:H l1=some (if b1 then .tup xs else .lst xs)) (h2:H l2=some (if b2 then .tup ys else .lst ys)) (c1:Cvs mg ρ H xs ds) (c2:Cvs mg ρ H ys es):ItOk mg ρ H (Im K b1 b2 l1 l2) (.fix (pairs ds es)) where
 item:=fun i ρ' H' M' d e j q=>by
  have hq:(pairs ds es)[i]?=some d:=Option.some.inj q
  rw[pairs_at] at hq
  split at hq
  ·rename_i dx dy e1 e2
   cases hq
   obtain⟨x,hx,cx⟩:=c1.get e1
   obtain⟨y,hy,cy⟩:=c2.get e2
   have k1:=(e.keep _ _ h1 n1).2
   have k2:=(e.keep _ _ h2 n2).2
   refine⟨⟨xs,ys,x,y,qZ k1,qZ k2,hx,hy⟩,fun v H2 z=>?_⟩
   obtain⟨p,hp,rfl,z⟩:=z
   obtain⟨x',y',hx',hy',rfl⟩:=z xs ys (qZ k1) (qZ k2)
   rw[hx] at hx';cases hx'
   rw[hy] at hy';cases hy'
   exact⟨.lay hp,j.lay _ hp,.tup (j.fresh hp) upd_same (.cons ((cx.kp e).mono (.lay hp)) (.cons ((cy.kp e).mono (.lay hp)) .nil))⟩
  ·cases hq
 stop:=fun i ρ' H' M' e j q=>by
  have hq:(pairs ds es)[i]?=none:=Option.some.inj q
  rw[pairs_at] at hq
  refine⟨xs,ys,qZ (e.keep _ _ h1 n1).2,qZ (e.keep _ _ h2 n2).2,?_⟩
  cases e1:ds[i]? with
  |none=>exact .inl (List.getElem?_eq_none_iff.mpr (by rw[c1.len];exact List.getElem?_eq_none_iff.mp e1))
  |some dx=>cases e2:es[i]? with
    |none=>exact .inr (List.getElem?_eq_none_iff.mpr (by rw[c2.len];exact List.getElem?_eq_none_iff.mp e2))
    |some dy=>rw[e1,e2] at hq;cases hq
end
theorem Es{X:Cx}{E:XK}{elts:List Expr}{kt:Nat}{tp:Pos}{a b:Expr}{fa:aa->DM (List D)}{p pos:Pos}(hg:Gl X "zip")(hm:X.mg "zip"=none)(ha:DA X E [a,b] fa)(hs:notStar a=true:=by rfl)(hs2:notStar b=true:=by rfl) :
  DI X E (.Tuple elts kt tp) (.Call (.Name "zip" p) [a,b] [] pos) (fun δ=>fa δ>>=fun l=>opt (uz l)):=⟨by
 intro pins s σ H R I h
 obtain⟨ρ,δ,M,ev,j,g1⟩:=h
 refine Call_ (ld_blt I hg hm boot_zip (PyProof.Rows.callWith_type1 (thn (ha.h.h pos pins s σ H (fun vs H1=>∃ρ1 M1 ds,Ext ρ H ρ1 H1∧J X.mg ρ1 M1 H1∧Cvs X.mg ρ1 H1 vs ds∧Go X.mg E (ItOk X.mg) R ρ1 H1 (opt (uz ds)) M1) I ⟨ρ,δ,M,ev,j,g1.bind fun ρ1 H1 M1 vs ds e1 j1 c1 g2=>⟨ρ1,M1,ds,e1,j1,c1,g2⟩⟩) fun us s1 h1=>?_) (aX hs) (by rw[aX hs2];rfl)))
 obtain⟨vs,H1,I1,rv,ρ1,M1,ds,e1,j1,c1,g2⟩:=h1
 obtain⟨itn,ei,q⟩:=g2.opt
 unfold uz at ei
 split at ei
 rotate_left
 ·cases ei
 rename_i dx dy
 split at ei
 rotate_left
 ·cases ei
 rename_i b1 l b2 m f1 f2
 cases ei
 obtain⟨v1,v2,rfl,k1,k2⟩:=c1.two
 obtain⟨a1,xs,rfl,n1,h1,cx⟩:=yh (K:=X.K) k1 f1
 obtain⟨a2,ys,rfl,n2,h2,cy⟩:=yh (K:=X.K) k2 f2
 obtain⟨u1,u2,rfl,r1,r2⟩:=vals2 rv
 cases r1
 cases r2
 obtain⟨its1,w1,p1,_⟩:=I1.seqS (qZ (K:=X.K) h1)
 obtain⟨its2,w2,p2,_⟩:=I1.seqS (qZ (K:=X.K) h2)
 refine xQ p1 p2 fun h' a1' a2' a3 a4 a5 a6 a7=>wpAny_pyIter_zip a1' ?_
 have lt1:@LT.lt Nat _ a1 s1.heap.objs.size:=p1.lt
 have lt2:@LT.lt Nat _ a2 s1.heap.objs.size:=p2.lt
 have D:ZipApart (s1.heap.objs.size+4) (s1.heap.objs.size+2) (s1.heap.objs.size+3) s1.heap.objs.size (s1.heap.objs.size+1) a1 a2:=by
  constructor<;>exact fun (h:@Eq Nat _ _)=>by have:=lt1;have:=lt2;omega
 have I2:Inv X pins σ H1 { s1 with heap:=h' }:=I1.kept (t':=s1.toks) a7
 refine⟨_,_,_,_,H1,rfl,I2,Bj D,⟨a1',a2',⟨_,_,a3⟩,a4.1,a5.1⟩,fun b hb=>?_,q ρ1 H1 _ .refl j1 (Ft n1 n2 h1 h2 cx cy)⟩
 refine I1.fpOk ?_ (I1.hok.fresh ?_)<;>(simp only[List.mem_cons,List.mem_nil_iff,or_false] at hb;rcases hb with rfl | rfl | rfl | rfl | rfl<;>omega)⟩
structure XTab(K:PySem.W.Frag)(mg:Str->Option Value)(ns:List Str)(F:Addr):Prop where
 cls:∀a∈ns,∃C,XCls K mg a C∧XAt K C∧Catches K C F
 kit:∀a∈ns,∀b∈ns,∀C D,mg a=some (.ref C)->mg b=some (.ref D)->PySem.W.kitOne K (.ref C) (.ref D)=some (a==b)
theorem gD{P:Program}{w:World}{K:PySem.W.Frag}{mg:Str->Option Value}{base:Heap}{N:List Str}{qual:Str}{scope:Scope}{f:Addr}{cd:Value}{A:Around}{outer:List Env}{s:Shared}{H:Hp}{E:XK}{ns:List Str}{F:Addr}{x:Str}{np cpos pos:Pos}{e:Expr}{fe:aa->DM D}
  (T:XTab K mg ns F) (hx:x∈ns) (he:DE (aH P w K mg base N qual scope f cd A outer s H E) E e fe)
  (hg:Gl (aH P w K mg base N qual scope f cd A outer s H E) x:=by rfl) (hd:(x==("__debug__":Str))=false:=by decide)
  (hst:starEach [e] (aH P w K mg base N qual scope f cd A outer s H E).env=[(false,eval e (aH P w K mg base N qual scope f cd A outer s H E).env)]:=by rfl) :
  DS (aH P w K mg base N qual scope f cd A outer s H E) E (.Raise (some (.Call (.Name x np) [e] [] cpos)) none pos) (fun δ=>fe δ>>=fun _=>raise x):=by
 obtain⟨C,xc,_,_⟩:=T.cls x hx
 refine⟨PS.mono (L2.Bd xc he.h hg hd hst) fun D σ H h=>?_⟩
 obtain⟨ρ,δ,M,ev,j,g1⟩:=h
 refine⟨ρ,δ,M,ev,j,g1.bind fun ρ1 H1 M1 v d e1 j1 c1 g2=>⟨rfl,?_⟩⟩
 obtain⟨r,er,p⟩:=g2
 cases er
 exact p ρ1 H1 C .refl j1 xc.at_
theorem Ev.forget{mg:Str->Option Value}{ρ:Rh}{H:Hp}{σ:L2.St}{δ:aa}{i:Nat}(h:Ev mg ρ H σ δ):Ev mg ρ H (σ.set i none) (δ.set i none):=by
 refine⟨by rw[List.length_set,List.length_set,h.len],fun j x q=>?_⟩
 by_cases e:j=i
 ·subst e
  have hj:j<(δ.set j none).length:=(List.getElem?_eq_some_iff.mp q).1
  rw[List.length_set] at hj
  rw[List.getElem?_set_self hj] at q
  cases q
 ·rw[List.getElem?_set_ne (fun z=>e z.symm)] at q ⊢
  exact h.val j x q
def Gh(i:Nat):Fl->DM Fl
 |.nx δ=>pure (.nx (δ.set i none))
 |.bk δ=>pure (.bk (δ.set i none))
 |.ct δ=>pure (.ct (δ.set i none))
 |.rt d=>pure (.rt d)
def Hh(ns:List Str)(n i:Nat)(fb:aa->DM Fl)(fh:Str->aa->DM Fl)(δ:aa):DM Fl:=fun M=>match fb δ M with
 |some (.exc c,M')=>if ns.contains c then (bY (fh c ((List.replicate n none).set i (some (.exn 0))))>>=Gh i) M' else none
 |r=>r
def nF(ns:List Str)(c:Str):List D->Mo->Option D
 |[.exn _,.cls k],_=>if ns.contains k then some (.bl (c==k)) else none
 |_,_=>none
def jt(ns:List Str)(y:Addr)(c:Str):List D->Mo->Option D
 |[.exn a,.cls k],_=>if a==y&&ns.contains k then some (.bl (c==k)) else none
 |_,_=>none
theorem Hn{α β:Type}(a:α)(f:α->DM β):((Pure.pure a:DM α)>>=f)=f a:=rfl
theorem Je(ns:List Str)(y:Addr)(c k:Str):jt ns y c [.exn y,.cls k]=nF ns c [.exn 0,.cls k]:=by
 funext M
 simp[jt,nF]
theorem Jh{α:Type}(a:α):(opt (some a):DM α)=Pure.pure a:=rfl
theorem Bt{α β γ:Type}(m:DM α)(f:α->DM β)(g:β->DM γ):(m>>=f)>>=g=m>>=fun a=>f a>>=g:=by
 funext M
 show DM.bind (DM.bind m f) g M=DM.bind m (fun a=>DM.bind (f a) g) M
 unfold DM.bind
 cases m M with
 |none=>rfl
 |some r=>obtain⟨r,M'⟩:=r;cases r<;>rfl
theorem eZ {X:Cx}{E:XK}{K:PySem.W.Frag}{mg:Str->Option Value}{ns:List Str}{F y C:Addr}{oe:Obj}{c:Str} (T:XTab K mg ns F) (hc:c∈ns) (hm:mg c=some (.ref C)) (ho:oe.cls=.ref C) (xa:XAt K C) (hp:(y,oe)∈X.pn) (hK:X.K=K:=by rfl) (hM:X.mg=mg:=by rfl):CallD X E (.builtin "isinstance") (fun l=>rd (jt ns y c l)):=by
 subst hK hM
 exact   CallD.of (xM hp) fun vs H Q ρ M ds d j cs e q=>by
  unfold jt at e
  split at e
  ·split at e
   ·rename_i hk
    cases e
    rw[Bool.and_eq_true] at hk
    obtain⟨v,w,rfl,k1,k2⟩:=cs.two
    cases k1
    have ha:=beq_iff_eq.mp hk.1
    subst ha
    cases k2 with | cls h=>
    exact⟨_,_,C,_,rfl,rfl,.inr ⟨_,rfl⟩,ho,xa,T.kit c hc _ (List.contains_iff_mem.mp hk.2) _ _ hm h,q ρ H _ .refl j (.bl _)⟩
   ·cases e
  ·cases e
section
variable{X:Cx}{E:XK}{a b c:Expr}{fa fb fc:aa->DM D}{pos:Pos}
def Ex:D->Mo->Option D
 |.int i,_=>if i.natAbs.log2<1920 then some (.str (toString i)) else none
 |_,_=>none
theorem oR (ha:DE X E a fa):DE X E (.FormattedValue a (-1) none pos) (fun δ=>fa δ >>= fun x=>rd (Ex x)):=⟨PE.mono (Gn ha.h) fun σ H Q h=>by
 obtain⟨ρ,δ,M,ev,j,g1⟩:=h
 refine⟨ρ,δ,M,ev,j,g1.bind fun ρ1 H1 M1 x dx e1 j1 c1 g2=>?_⟩
 obtain⟨d,e,q⟩:=g2.rd
 unfold Ex at e
 split at e
 ·split at e
  ·cases e;cases c1
   exact⟨_,rfl,‹_›,q ρ1 H1 _ .refl j1 (.str _)⟩
  ·cases e
 ·cases e⟩
def strOf:D->Option Str
 |.str x=>some x
 |_=>none
def Fv(fa fb fc:aa->DM D)(δ:aa):DM D:=fa δ>>=fun x=>opt (strOf x)>>=fun a=>(if a.length≤sizeLine then pure () else stuck)>>=fun _=>fb δ>>=fun y=>opt (strOf y)>>=fun b=>(if a.length+b.length≤sizeLine then pure () else stuck)>>=fun _=>fc δ>>=fun z=>opt (strOf z)>>=fun c=>if a.length+b.length+c.length≤sizeLine then pure (.str (Str.empty++a++b++c)) else stuck
theorem Go.strOf{mg:Str->Option Value}{ρ:Rh}{H:Hp}{M:Mo}{α β:Type}{rel:Rh->Hp->β->α->Prop}{Q:β->Hp->Prop}{d:D}{k:Str->DM α}(g:Go mg E rel Q ρ H (L3.opt (L3.strOf d)>>=k) M):∃x,d=.str x∧Go mg E rel Q ρ H (k x) M:=by
 cases d with
 |str x=>exact⟨x,rfl,g⟩
 |_=>obtain⟨r,e,_⟩:=g;cases e
theorem Go.ite{mg:Str->Option Value}{ρ:Rh}{H:Hp}{M:Mo}{α β:Type}{rel:Rh->Hp->β->α->Prop}{Q:β->Hp->Prop}{p:Prop}[Decidable p]{m:DM α}(g:Go mg E rel Q ρ H (if p then m else stuck) M):p∧Go mg E rel Q ρ H m M:=by
 by_cases h:p
 ·rw[if_pos h] at g;exact⟨h,g⟩
 ·rw[if_neg h] at g;obtain⟨r,e,_⟩:=g;cases e
theorem Go.iteB{mg:Str->Option Value}{ρ:Rh}{H:Hp}{M:Mo}{α β:Type}{rel:Rh->Hp->β->α->Prop}{Q:β->Hp->Prop}{p:Prop}[Decidable p]{k:Unit->DM α}(g:Go mg E rel Q ρ H ((if p then (Pure.pure ():DM Unit) else stuck)>>=k) M):p∧Go mg E rel Q ρ H (k ()) M:=by
 by_cases h:p
 ·rw[if_pos h] at g;exact⟨h,g⟩
 ·rw[if_neg h] at g;obtain⟨r,e,_⟩:=g;cases e
theorem sS(ha:DE X E a fa)(hb:DE X E b fb)(hc:DE X E c fc):DE X E (.JoinedStr [a,b,c] pos) (Fv fa fb fc):=⟨PE.mono (Az ha.h hb.h hc.h) fun σ H Q h=>by
 obtain⟨ρ,δ,M,ev,j,g1⟩:=h
 refine⟨ρ,δ,M,ev,j,Go.bind g1 fun ρ1 H1 M1 x dx e1 j1 c1 g2=>?_⟩
 obtain⟨sa,rfl,g2⟩:=g2.strOf
 obtain⟨h1,g2⟩:=g2.iteB
 cases c1
 refine⟨sa,rfl,h1,ρ1,δ,M1,ev.mono e1,j1,g2.bind fun ρ2 H2 M2 y dy e2 j2 c2 g3=>?_⟩
 obtain⟨sb,rfl,g3⟩:=g3.strOf
 obtain⟨h2,g3⟩:=g3.iteB
 cases c2
 refine⟨sb,rfl,h2,ρ2,δ,M2,(ev.mono e1).mono e2,j2,g3.bind fun ρ3 H3 M3 z dz e3 j3 c3 g4=>?_⟩
 obtain⟨sc,rfl,g4⟩:=g4.strOf
 obtain⟨h3,g4⟩:=g4.ite
 cases c3
 exact⟨sc,rfl,h3,g4.pure ρ3 H3 _ .refl j3 (.str _)⟩⟩
def boolsOf:List D->Option (List Bool)
 |[]=>some []
 |.bl b::l=>(boolsOf l).map (b::·)
 |_=>none
theorem nj {mg:Str->Option Value}{ρ:Rh}{H:Hp}:∀ {xs:List V}{l:List D}{bs:List Bool},Cvs mg ρ H xs l->boolsOf l=some bs->xs=bs.map V.bl
 |_,_,_,.nil,e=>by cases e;rfl
 | _,_,_,.cons (d:=d) c cs,e=>by
   cases d with
   |bl i=>
     obtain⟨ms,h1,rfl⟩:=Option.map_eq_some_iff.mp e
     cases c
     rw[nj cs h1];rfl
   |_=>cases e
def sH:D->List D->DM D
 |x,[.bl b]=>rd fun M=>(aN x M).bind fun l=>(boolsOf l).map fun bs=>.int (bs.countP (·== b):Nat)
 |_,_=>stuck
theorem yL:xx X E "list.count" sH:=by
 intro pins s σ H x xs v us Q I rx rs q
 obtain⟨ρ,M,d,ds,j,cx,cs,g⟩:=q
 cases cs with
 |nil=>obtain⟨r,e,_⟩:=g;cases e
 | cons c cs=>cases cs with
   |cons _ _=>obtain⟨r,e,_⟩:=g;cases c<;>cases e
   | nil=>cases c with
     |bl b=>
       obtain⟨d',e,p⟩:=Go.rd g
       obtain⟨l,h1,e1⟩:=Option.bind_eq_some_iff.mp e
       obtain⟨bs,h2,rfl⟩:=Option.map_eq_some_iff.mp e1
       obtain⟨a,ys,rfl,ha,cl⟩:=b8 j cx h1
       have:=nj cl h2
       subst this
       exact Ao (X:=X) pins s σ H _ _ v us Q I rx rs ⟨a,bs,b,rfl,rfl,ha,p ρ H _ .refl j (.int _)⟩
     |_=>obtain⟨r,e,_⟩:=g;cases e
def findB(b:Bool):List Bool->Option Nat
 |[]=>none
 |c::l=>if c==b then some 0 else (findB b l).map (·+ 1)
theorem oZ {b:Bool}:∀ {l:List Bool}{n:Nat},findB b l=some n->l[n]?=some b∧∀ m c,m<n->l[m]?=some c->(c == b)=false
 |[],n,h=>by cases h
 | c::l,n,h=>by
   unfold findB at h
   split at h
   ·rename_i hc
    cases h
    exact⟨by rw[beq_iff_eq.mp hc];rfl,fun m c hm=>absurd hm (Nat.not_lt_zero _)⟩
   ·rename_i hc
    obtain⟨k,h1,rfl⟩:=Option.map_eq_some_iff.mp h
    obtain⟨a1,a2⟩:=oZ h1
    refine⟨by simpa using a1,fun m c' hm e=>?_⟩
    cases m with
    |zero=>simp at e;subst e;simpa using hc
    |succ m=>exact a2 m c' (by omega) (by simpa using e)
def tK:D->List D->DM D
 |x,[.bl b]=>rd fun M=>(aN x M).bind fun l=>(boolsOf l).bind fun bs=>(findB b bs).bind fun n=>if n<1000 then some (.int (n:Nat)) else none
 |_,_=>stuck
theorem yM:xx X E "list.index" tK:=by
 intro pins s σ H x xs v us Q I rx rs q
 obtain⟨ρ,M,d,ds,j,cx,cs,g⟩:=q
 cases cs with
 |nil=>obtain⟨r,e,_⟩:=g;cases e
 | cons c cs=>cases cs with
   |cons _ _=>obtain⟨r,e,_⟩:=g;cases c<;>cases e
   | nil=>cases c with
     | bl b=>
       obtain⟨d',e,p⟩:=Go.rd g
       obtain⟨l,h1,e1⟩:=Option.bind_eq_some_iff.mp e
       obtain⟨bs,h2,e2⟩:=Option.bind_eq_some_iff.mp e1
       obtain⟨n,h3,e3⟩:=Option.bind_eq_some_iff.mp e2
       split at e3
       ·rename_i hn
        cases e3
        obtain⟨a,ys,rfl,ha,cl⟩:=b8 j cx h1
        have:=nj cl h2
        subst this
        obtain⟨f1,f2⟩:=oZ h3
        exact Aq (X:=X) pins s σ H _ _ v us Q I rx rs ⟨a,bs,b,n,rfl,rfl,ha,f1,f2,hn,p ρ H _ .refl j (.int _)⟩
       ·cases e3
     |_=>obtain⟨r,e,_⟩:=g;cases e
end
theorem fJ:∀ {names:List (Str×NameKind)}{m:Nat}{y:Str}{c:Addr},(y,c)∈cellsFrom m names []->(y,NameKind.cell)∈names
 |[],_,_,_,h=>nomatch h
 | (n,k)::r,m,y,c,h=>by
   unfold cellsFrom at h
   split at h
   ·rename_i hk
    rw[bA] at h
    rcases List.mem_append.mp h with z | z
    ·exact .tail _ (fJ z)
    ·cases List.mem_singleton.mp z
     have hk':k=.cell:=by cases k<;>first | rfl | cases hk
     rw[hk'];exact .head _
   ·exact .tail _ (fJ h)
def isC:NameKind->Bool
 |.cell=>true
 |_=>false
theorem Fg{k:NameKind}(h:isC k=true):k=.cell:=by cases k<;>first | rfl | cases h
theorem Dh{names:List (Str×NameKind)}(h:(names.all fun p=>!isC p.2 || (match names.lookup p.1 with | some k=>isC k | none=>false))=true):∀(m:Nat) y c,(cellsFrom m names []).lookup y=some c->names.lookup y=some .cell:=fun m y c e=>by
 have hm:=fJ (PySem.mem_of_lookup e)
 have q:=List.all_eq_true.mp h _ hm
 simp only[isC,Bool.not_true,Bool.false_or] at q
 split at q
 ·rename_i k hk
  rw[hk,Fg q]
 ·cases q
theorem Di{cl:List (Str×Addr)}{names:List (Str×NameKind)}(h:rR (fun p=>(match names.lookup p.1 with | some k=>isC k | none=>false)=false) cl):∀y c,cl.lookup y=some c->names.lookup y≠some .cell:=fun y c e z=>by
 have:=jg h (y,c) (L2.mem_of_lookup e)
 simp only[z,isC] at this
 cases this
end L3
namespace L3
open PySem PySem.Spec L2
@[simp] theorem aD{α β:Type}(a:α)(f:α->DM β):((Pure.pure a:DM α)>>=f)=f a:=id rfl
@[simp] theorem aL{α β γ:Type}(m:DM α)(f:α->DM β)(g:β->DM γ):(m>>=f)>>=g=m>>=fun a=>f a>>=g:=Bt m f g
@[simp] theorem um{α:Type}(a:α):(opt (some a):DM α)=Pure.pure a:=id rfl
@[simp] theorem J8{α:Type}(a:α):bY (Pure.pure a:DM α)=Pure.pure a:=id rfl
@[simp] theorem JB{α β:Type}(c:Str)(f:α->DM β):((raise c:DM α)>>=f)=raise c:=id rfl
theorem cu{α:Type}{f:Mo->Option α}{a:α}(h:∀M,f M=some a):(rd f:DM α)=Pure.pure a:=by
 funext M
 show (f M).map _=_
 rw[h M];rfl
@[simp] theorem Ia(f g:aa->DM Fl)(δ:aa):jH f g δ=f δ>>=fun r=>match r with
 |.nx δ'=>g δ'
 |r=>Pure.pure r:=id rfl
@[simp] theorem bj(i:Nat)(δ:aa):bD i δ=opt ((δ[i]?).join):=id rfl
@[simp] theorem eX(b:Bool):eY (.bl b)=Pure.pure b:=id rfl
@[simp] theorem GC(p n:Nat)(fb:aa->DM Fl)(ds:List D):aF p n fb ds=if ds.length=p then fb (d7 n ds)>>=fun r=>match r with
 |.nx _=>Pure.pure .non
 |.rt d=>Pure.pure d
 |_=>stuck else stuck:=id rfl
@[simp] theorem JC(n:Nat)(ds:List D):d7 n ds=ds.map some++List.replicate (n-ds.length) none:=id rfl
@[simp] theorem ul(i:Nat)(d:D)(δ:aa):gN i d δ=Pure.pure (δ.set i (some d)):=id rfl
@[simp] theorem Jm(n:Nat)(fs:List D->aa->DM aa)(l:List D)(δ:aa):gT n fs (.tup l) δ=if l.length=n then fs l δ else stuck:=id rfl
@[simp] theorem HR(f:D->aa->DM aa)(fs:List D->aa->DM aa)(d:D)(l:List D)(δ:aa):dN f fs (d::l) δ=f d δ>>=fun δ'=>fs l δ':=id rfl
@[simp] theorem HS(δ:aa):lW [] δ=Pure.pure δ:=id rfl
@[simp] theorem J9(i j:Nat)(fa:aa->DM (List D))(δ:aa):wH i j fa δ=fa δ>>=fun l=>match l with
 |[v,w]=>Pure.pure (.nx ((δ.set i (some v)).set j (some w)))
 |_=>stuck:=id rfl
@[simp] theorem BX(i j:Int):(rd (jf (.int i) (.int j)):DM D)=Pure.pure (.int (i+j)):=id rfl
@[simp] theorem Ib(i j:Int):(rd (wZ (.int i) (.int j)):DM D)=Pure.pure (.int (i-j)):=id rfl
@[simp] theorem Jr(i j:Int):(rd (BJ (.int i) (.int j)):DM D)=Pure.pure (.bl (decide (i<j))):=id rfl
@[simp] theorem Jq(i j:Int):(rd (o8 (.int i) (.int j)):DM D)=Pure.pure (.bl (decide (i≤j))):=id rfl
@[simp] theorem Jp(i j:Int):(rd (mU (.int i) (.int j)):DM D)=Pure.pure (.bl (decide (j<i))):=id rfl
@[simp] theorem Jo(i j:Int):(rd (Bx (.int i) (.int j)):DM D)=Pure.pure (.bl (decide (j≤i))):=id rfl
@[simp] theorem J6(i:Int):(rd (wF (.int i)):DM D)=Pure.pure (.int (-i)):=id rfl
@[simp] theorem HN(i:Int):(rd (vI [.int i]):DM D)=Pure.pure (.int (if i<0 then -i else i)):=id rfl
@[simp] theorem GJ(i j:Int):(rd (wB [.int i,.int j]):DM D)=Pure.pure (.int (if j > i then j else i)):=id rfl
@[simp] theorem GK(i j:Int):(rd (wC [.int i,.int j]):DM D)=Pure.pure (.int (if j<i then j else i)):=id rfl
theorem pJ{i j:Int}(h:0<j):(rd (gH (.int i) (.int j)):DM D)=Pure.pure (.int (i%j)):=cu fun M=>by simp[cD,h]
theorem mD{i j:Int}(h:eV i j=true):(rd (lq (.int i) (.int j)):DM D)=Pure.pure (.int (i*j)):=cu fun M=>by simp[cD,h]
theorem za{i j:Int}(h:lR i j=true):(rd (jq (.int i) (.int j)):DM D)=Pure.pure (.int (i / j)):=cu fun M=>by simp[cD,h]
theorem Cd{i j:Int}(h:BV i j=true):(rd (tZ (.int i) (.int j)):DM D)=Pure.pure (.int (i^j.toNat)):=cu fun M=>by simp[cD,h]
theorem bits_le{i:Int}{n:Nat}(h:i.natAbs<2^n):Builtin.Int.intBits i≤n:=by
 unfold Builtin.Int.intBits
 split
 ·exact Nat.zero_le _
 ·rename_i h0
  have:i.natAbs≠0:=by intro z;apply h0;simp;omega
  exact (Nat.log2_lt this).mpr h
theorem uX{i j:Int}(h:i.natAbs<2^64):eV i j=true:=by
 unfold eV
 have:¬ (Builtin.Int.intBits i > shortFactorBits):=by have:=bits_le h;unfold shortFactorBits;omega
 simp[this]
theorem lY{i j:Int}(h:j.natAbs<2^64):eV i j=true:=by
 unfold eV
 have:¬ (Builtin.Int.intBits j > shortFactorBits):=by have:=bits_le h;unfold shortFactorBits;omega
 simp[this]
theorem uP{i j:Int}(h0:0<j)(h:j.natAbs<2^1000):lR i j=true:=by
 unfold lR
 have a:Builtin.divisionGoesByPylong i j=false:=by
  unfold Builtin.divisionGoesByPylong
  have hj:j.natAbs≠0:=by omega
  have hl:j.natAbs.log2<1000:=(Nat.log2_lt hj).mpr h
  have h0':(j==0)=false:=by simp;omega
  simp only[h0']
  have:¬ (j.natAbs.log2 / 30+1 > 300):=by omega
  simp[this]
 simp[a,h0]
theorem zj{a b:Nat}(h0:0<b):(rd (gH (.int (a:Int)) (.int (b:Int))):DM D)=Pure.pure (.int ((a%b:Nat):Int)):=by
 rw[pJ (by omega),Int.natCast_emod]
def nD(n:Nat):D:=.int (n:Int)
def nT(l:List Nat):D:=.tup (l.map nD)
theorem j8{α:Type}{l:List α}{i:Nat}{a:α}(h:l[i]?=some a):atI l (i:Int)=some a:=by
 have hi:=(List.getElem?_eq_some_iff.mp h).1
 unfold atI ixN
 rw[if_pos (by omega),if_pos (by omega)]
 simpa using h
theorem BZ{l:List D}{i:Nat}{a:D}(h:l[i]?=some a):(rd (fu (.tup l) (.int (i:Int))):DM D)=Pure.pure a:=cu fun M=>j8 h
theorem rE{l:List D}{i:Nat}{a:D}(h:l[i]?=some a):(rd (fu (.lst l) (.int (i:Int))):DM D)=Pure.pure a:=cu fun M=>j8 h
theorem HY{l:List Nat}{i:Nat}{a:Nat}(h:l[i]?=some a):(rd (fu (nT l) (.int (i:Int))):DM D)=Pure.pure (nD a):=BZ (by simp[h])
@[simp] theorem JQ(l:List D):(rd (gG [.tup l]):DM D)=Pure.pure (.int (l.length:Int)):=id rfl
@[simp] theorem JP(l:List D):(rd (gG [.lst l]):DM D)=Pure.pure (.int (l.length:Int)):=id rfl
@[simp] theorem GF(l:List Int):(rd (gG [.scr l]):DM D)=Pure.pure (.int (l.length:Int)):=id rfl
@[simp] theorem JV(l:List D):(rd (pQ [.lst l]):DM D)=Pure.pure (.tup l):=id rfl
@[simp] theorem JW(l:List D):(rd (pQ [.tup l]):DM D)=Pure.pure (.tup l):=id rfl
theorem kZ:∀l:List Nat,intsOf (l.map nD)=some (l.map fun n:Nat=>(n:Int))
 |[]=>rfl
 |i::l=>by simp[intsOf,nD];exact kZ l
theorem nZ:∀l:List Nat,(l.map fun n:Nat=>(n:Int)).sum=((l.sum:Nat):Int)
 |[]=>rfl
 |i::l=>by simp[nZ l]
@[simp] theorem JS(l:List Nat):(rd (uv [nT l]):DM D)=Pure.pure (nD l.sum):=cu fun M=>by
 show (intsOf (l.map nD)).map _=_
 rw[kZ];simp[nD,nZ]
@[simp] theorem GZ(l:List Nat):(rd (uv [.lst (l.map nD)]):DM D)=Pure.pure (nD l.sum):=cu fun M=>by
 show (intsOf (l.map nD)).map _=_
 rw[kZ];simp[nD,nZ]
@[simp] theorem pK{n:Nat}(h:n<2^62):jz [.int (n:Int)]=some (.fix ((List.range n).map nD)):=by
 have:wO (n:Int)=true:=by unfold wO;exact decide_eq_true ⟨by omega,by omega⟩
 simp[jz,this,nJ,nD]
@[simp] theorem J0(l:List D):Br (.tup l)=some (.fix l):=id rfl
theorem pI{l:List D}(h:l.length≤1000000):tV l=Pure.pure (.tup l):=by
 have:fO l=true:=by unfold fO;exact decide_eq_true (by show l.length≤2^24;omega)
 simp[tV,this]
theorem cW{l:List D}(h:l.length≤1000000):dR l=Pure.pure (.lst l):=by
 have:fO l=true:=by unfold fO;exact decide_eq_true (by show l.length≤2^24;omega)
 simp[dR,this]
@[simp] theorem vg(fg:D->aa->DM aa)(ft:aa->DM Bool)(fb:aa->List D->DM (aa×List D))(ds:List D)(δ:aa)(l:List D):cz fg ft fb (.fix ds) δ l=bf fg ft fb ds δ l:=id rfl
theorem tM {fg:D->aa->DM aa}{ft:aa->DM Bool}{fe:aa->DM D} (S:aa->Prop) (en:D->aa) (p:D->Bool) (e:D->D):∀ (ds:List D) (δ:aa) (l:List D),S δ->l.length + ds.length≤1000000->
  (∀d∈ds,∀δ,S δ->fg d δ=Pure.pure (en d)∧S (en d))->(∀d∈ds,ft (en d)=Pure.pure (p d))->(∀d∈ds,p d=true->fe (en d)=Pure.pure (e d))->∃δ',bf fg ft (bO fe) ds δ l=Pure.pure (δ',l++(ds.filter p).map e)
 |[],δ,l,_,_,_,_,_=>⟨δ,by simp[bf]⟩
 | d::ds,δ,l,s,hl,h0,h1,h2=>by
   have a:=h0 d (List.mem_cons_self ..) δ s
   have b:=h1 d (List.mem_cons_self ..)
   have hl':l.length+(ds.length+1)≤1000000:=by simpa using hl
   have lt:l.length<sizeLine:=by show l.length<2^24;omega
   have ih:=fun l' hl'=>tM S en p e ds (en d) l' a.2 hl' (fun x hx=>h0 x (List.mem_cons_of_mem _ hx)) (fun x hx=>h1 x (List.mem_cons_of_mem _ hx)) (fun x hx=>h2 x (List.mem_cons_of_mem _ hx))
   by_cases hp:p d=true
   ·have c:=h2 d (List.mem_cons_self ..) hp
    obtain⟨δ',q⟩:=ih (l++[e d]) (by simp;omega)
    refine⟨δ',?_⟩
    simp[bf,a.1,b,hp,bO,c,lt,q]
   ·obtain⟨δ',q⟩:=ih l (by omega)
    refine⟨δ',?_⟩
    simp[bf,a.1,b,hp,q]
@[simp] theorem zm(l:List D):Out.run .val l=Pure.pure (.lst l):=id rfl
theorem Ho{ft:aa->DM Bool}{fe:aa->DM D}{x:Option D}{rest:aa}{ds:List D}(p:D->Bool)(e:D->D)(hl:ds.length≤1000000)(h1:∀d∈ds,ft (some d::rest)=Pure.pure (p d))(h2:∀d∈ds,p d=true->fe (some d::rest)=Pure.pure (e d)){β:Type}{k:aa×List D->DM β}{k':List D->DM β}(hk:∀q,k q=k' q.2) :
  (bY (bf (gN 0) ft (bO fe) ds (x::rest) [])>>=k)=k' ((ds.filter p).map e):=by
 obtain⟨δ',q⟩:=tM (fg:=gN 0) (ft:=ft) (fe:=fe) (fun δ=>∃x,δ=x::rest) (fun d=>some d::rest) p e ds (x::rest) [] ⟨x,rfl⟩ (by simpa using hl) (fun d _ δ ⟨x,h⟩=>⟨by subst h;rfl,_,rfl⟩) h1 h2
 rw[q];simp[hk]
@[simp] theorem Jz{α:Type}(m:DM α):(m>>=fun a=>(Pure.pure a:DM α))=m:=by
 funext M
 show DM.bind m _ M=m M
 unfold DM.bind
 cases m M with
 |none=>rfl
 |some r=>obtain⟨r,M'⟩:=r;cases r<;>rfl
def jw:Option D->List D->Option D
 |x,[]=>x
 |_,d::ds=>jw (some d) ds
def lX:Option D->Option D->List D->List D->aa
 |x,y,a::as,b::bs=>lX (some a) (some b) as bs
 |x,y,_,_=>[x,y]
theorem qP:∀ (as bs:List Int),PyData.eqvAll (as.map .int) (bs.map .int)=decide (as=bs)
 |[],[]=>by simp[PyData.eqvAll]
 |[],b::bs=>by simp[PyData.eqvAll]
 |a::as,[]=>by simp[PyData.eqvAll]
 |a::as,b::bs=>by
   rw[List.map_cons,List.map_cons]
   simp only[PyData.eqvAll,PyData.eqv,qP as bs]
   by_cases h:a=b<;>by_cases h2:as=bs<;>simp[h,h2]
theorem pP:∀l:List Int,iC (l.map D.int)=some (l.map PyData.int)
 |[]=>rfl
 |i::l=>by simp[iC,toPy,pP l]
theorem lay_ints:∀l:List Int,PyData.canLayAll0 (l.map PyData.int)=true
 |[]=>rfl
 |i::l=>by simp[PyData.canLayAll0,PyData.canLay0,lay_ints l]
theorem oV:∀ l:List Int,PyData.depthAll (l.map PyData.int)≤1
 |[]=>by simp[PyData.depthAll]
 |i::l=>by
   have:=oV l
   simp only[List.map_cons,PyData.depthAll,PyData.depth]
   omega
@[simp] theorem HQ(i j:Int):(rd (dM (.int i) (.int j)):DM D)=Pure.pure (.bl (decide (i=j))):=cu fun M=>by
 simp[dM,eqB,eqP,toPy,PyData.canLay0,PyData.depth,PyData.eqv]
 rw[Bool.eq_iff_iff];simp
@[simp] theorem H9(i j:Int):(rd (lu (.int i) (.int j)):DM D)=Pure.pure (.bl (!decide (i=j))):=cu fun M=>by
 simp[lu,eqB,eqP,toPy,PyData.canLay0,PyData.depth,PyData.eqv]
 rw[Bool.eq_iff_iff];simp
@[simp] theorem J3(i j:Str):(rd (dM (.str i) (.str j)):DM D)=Pure.pure (.bl (decide (i=j))):=id rfl
@[simp] theorem wL(i j:Str):(rd (lu (.str i) (.str j)):DM D)=Pure.pure (.bl (!decide (i=j))):=id rfl
theorem sY(a b:List Int):eqB (.tup (a.map D.int)) (.tup (b.map D.int))=some (decide (a=b)):=by
 have:=oV a
 have h:∀n,n≤1->1+n≤60:=fun n h=>by omega
 simp only[eqB,eqP,toPy,pP,Option.map_some,PyData.canLay0,lay_ints,PyData.depth,PyData.eqv,qP]
 simp
 omega
theorem lZ(l:List Nat):nT l=.tup ((l.map fun n:Nat=>(n:Int)).map D.int):=by simp[nT,nD,Function.comp_def]
theorem sG{a b:List Nat}:(a.map fun n:Nat=>(n:Int))=(b.map fun n:Nat=>(n:Int)) ↔ a=b:=List.map_inj_right fun x y (h:(x:Int)=(y:Int))=>by omega
@[simp] theorem J1(a b:List Nat):(rd (dM (nT a) (nT b)):DM D)=Pure.pure (.bl (decide (a=b))):=cu fun M=>by
 rw[lZ,lZ,dM,sY];simp[sG]
@[simp] theorem J5(a b:List Nat):(rd (lu (nT a) (nT b)):DM D)=Pure.pure (.bl (!decide (a=b))):=cu fun M=>by
 rw[lZ,lZ,lu,sY];simp[sG]
theorem vD:∀l:List Bool,d9 (l.map D.bl)=some l
 |[]=>rfl
 |b::l=>by simp[d9,Bh,vD l]
@[simp] theorem yX(l:List Bool):(rd (pW [.lst (l.map D.bl)]):DM D)=Pure.pure (.bl (l.all id)):=cu fun M=>by
 simp[pW,aN,vD]
theorem zB:∀ l:List Nat,d9 (l.map nD)=some (l.map fun n=>n != 0)
 |[]=>rfl
 |b::l=>by
   simp only[List.map_cons,d9,zB l,nD,Bh]
   congr 2
   rw[Bool.eq_iff_iff];simp
@[simp] theorem JN(l:List Nat):(rd (vK [nT l]):DM D)=Pure.pure (.bl (l.any (·!= 0))):=cu fun M=>by
 simp[vK,nT,zB,List.any_map]
theorem uM:∀ l:List Nat,l.any (·!= 0)=decide (0<l.sum)
 |[]=>rfl
 |a::l=>by
   rw[List.any_cons,uM l,Bool.eq_iff_iff]
   simp only[Bool.or_eq_true,bne_iff_ne,decide_eq_true_eq,ne_eq]
   rw[List.sum_cons]
   omega
theorem mC{d:D}{t c:String}(h:∀M,tyOf d M=some t)(hc:tys.contains c=true):(rd (fK [d,.ty c]):DM D)=Pure.pure (.bl (w5 t c)):=cu fun M=>by
 simp only[fK,h M,Option.bind_some,hc,if_true]
@[simp] theorem JT(b:Bool):(rd (jK (.bl b)):DM Bool)=Pure.pure b:=id rfl
@[simp] theorem JX(l m:List D):uz [.tup l,.tup m]=some (.fix (pairs l m)):=id rfl
def Rn{α:Type}(m:DM α)(M:Mo)(Q:α->Mo->Prop):Prop:=∃a M',m M=some (.ok a,M')∧Q a M'
theorem Rn.bind{α β:Type}{m:DM α}{f:α->DM β}{M:Mo}{Q1:α->Mo->Prop}{Q:β->Mo->Prop}(h:Rn m M Q1)(k:∀a M',Q1 a M'->Rn (f a) M' Q):Rn (m>>=f) M Q:=by
 obtain⟨a,M',e,q⟩:=h
 obtain⟨b,M2,e2,q2⟩:=k a M' q
 refine⟨b,M2,?_,q2⟩
 show DM.bind m f M=_
 unfold DM.bind
 rw[e];exact e2
theorem Rn.pure{α:Type}{a:α}{M:Mo}{Q:α->Mo->Prop}(q:Q a M):Rn (Pure.pure a) M Q:=⟨a,M,rfl,q⟩
theorem Rn.mono{α:Type}{m:DM α}{M:Mo}{Q R:α->Mo->Prop}(h:Rn m M Q)(k:∀a M',Q a M'->R a M'):Rn m M R:=by
 obtain⟨a,M',e,q⟩:=h
 exact⟨a,M',e,k a M' q⟩
theorem Rn.rd{α:Type}{f:Mo->Option α}{M:Mo}{a:α}{Q:α->Mo->Prop}(h:f M=some a)(q:Q a M):Rn (L3.rd f) M Q:=⟨a,M,by unfold L3.rd;rw[h];rfl,q⟩
theorem Rn.bindRd{α β:Type}{f:Mo->Option α}{k:α->DM β}{M:Mo}(a:α){Q:β->Mo->Prop}(h:f M=some a)(q:Rn (k a) M Q):Rn (L3.rd f>>=k) M Q:=Rn.bind (Rn.rd h (Q:=fun b M'=>b=a∧M'=M) ⟨rfl,rfl⟩) (fun b M' ⟨e1,e2⟩=>by rw[e1,e2];exact q)
theorem Rn.call{p n:Nat}{fb:aa->DM Fl}{ds:List D}{M:Mo}{Q:D->Mo->Prop}(hp:ds.length=p)(h:Rn (fb (d7 n ds)) M fun r M'=>∃d,r=.rt d∧Q d M'):Rn (aF p n fb ds) M Q:=by
 unfold aF
 rw[if_pos hp]
 refine Rn.bind h fun r M' ⟨d,e,q⟩=>?_
 subst e
 exact Rn.pure q
structure Sb(p:Nat)(M M':Mo):Prop where
 le:M.length≤M'.length
 keep:∀q,q≠p->q<M.length->M'[q]?=M[q]?
theorem Sb.trans{p:Nat}{M M1 M2:Mo}(h:Sb p M M1)(k:Sb p M1 M2):Sb p M M2:=⟨Nat.le_trans h.le k.le,fun q hq hl=>(k.keep q hq (Nat.lt_of_lt_of_le hl h.le)).trans (h.keep q hq hl)⟩
theorem Sb.set{p:Nat}{M:Mo}{o:DO}:Sb p M (M.set p o):=⟨by simp,fun q hq hl=>List.getElem?_set_ne (fun z=>hq z.symm)⟩
theorem Sb.push{p:Nat}{M:Mo}{o:DO}:Sb p M (M++[o]):=⟨by simp,fun q hq hl=>List.getElem?_append_left hl⟩
theorem Sb.at{p q:Nat}{M M':Mo}{o:DO}(h:Sb p M M')(hq:q≠p)(e:M[q]?=some o):M'[q]?=some o:=(h.keep q hq (List.getElem?_eq_some_iff.mp e).1).trans e
theorem Sb.new{p q:Nat}{M M':Mo}(h:M'.length=M.length∨M.length≤M'.length)(hq:M.length≤q){M2:Mo}(k:Sb q M' M2)(h1:Sb p M M'):Sb p M M2:=⟨Nat.le_trans h1.le k.le,fun r hr hl=>(k.keep r (by omega) (Nat.lt_of_lt_of_le hl h1.le)).trans (h1.keep r hr hl)⟩
def cO(p:Nat)(M:Mo):Prop:=∃v:Nat,M[p]?=some (.lst [nD v])
theorem cO.lt{p:Nat}{M:Mo}(h:cO p M):p<M.length:=by obtain⟨v,e⟩:=h;exact (List.getElem?_eq_some_iff.mp e).1
theorem cO.sb{p q:Nat}{M M':Mo}(h:cO p M)(s:Sb q M M')(hq:p≠q):cO p M':=by obtain⟨v,e⟩:=h;exact⟨v,s.at hq e⟩
theorem Dd{l:List D}{M:Mo}(h:l.length≤1000000):cG l M=some (.ok (.ref M.length),M++[.lst l]):=by
 have:fO l=true:=by unfold fO;exact decide_eq_true (by show l.length≤2^24;omega)
 unfold cG
 rw[if_pos this]
theorem Rn.cG{l:List D}{M:Mo}{β:Type}{k:D->DM β}{Q:β->Mo->Prop}(h:l.length≤1000000)(q:Rn (k (.ref M.length)) (M++[.lst l]) Q):Rn (L3.cG l>>=k) M Q:=Rn.bind ⟨_,_,Dd h,(⟨rfl,rfl⟩:D.ref M.length=.ref M.length∧M++[.lst l]=M++[.lst l])⟩ (Q1:=fun a M'=>a=.ref M.length∧M'=M++[.lst l]) (fun a M' ⟨e1,e2⟩=>by rw[e1,e2];exact q)
theorem yx{n:Nat}{M:Mo}{l:List D}{i:Nat}{a:D}(h:M[n]?=some (.lst l))(hi:l[i]?=some a):fu (.ref n) (.int (i:Int)) M=some a:=by
 show (aN (.ref n) M).bind _=_
 simp only[aN,h,Option.bind_some]
 exact j8 hi
theorem yu{n i:Nat}(h:i<n):ixN n (i:Int)=some i:=by
 unfold ixN
 rw[if_pos (by omega),if_pos (by omega)];simp
theorem mF{n:Nat}{M:Mo}{l:List D}{i:Nat}{v:D}(h:M[n]?=some (.lst l))(hi:i<l.length):wU (.ref n) (.int (i:Int)) v M=some (.ok (),M.set n (.lst (l.set i v))):=by
 delta wU
 dsimp only
 rw[h]
 dsimp only
 rw[yu hi]
theorem uN{n:Nat}{M:Mo}{l:List D}{v:D}(h:M[n]?=some (.lst l))(hl:l.length<1000000):zM (.ref n) [v] M=some (.ok .non,M.set n (.lst (l++[v]))):=by
 have:l.length<sizeLine:=by show l.length<2^24;omega
 delta zM
 dsimp only
 rw[h]
 dsimp only
 rw[if_pos this]
theorem Rn.run{α β:Type}{m:DM α}{k:α->DM β}{M M':Mo}{a:α}{Q:β->Mo->Prop}(h:m M=some (.ok a,M'))(q:Rn (k a) M' Q):Rn (m>>=k) M Q:=Rn.bind (Q1:=fun b M2=>b=a∧M2=M') ⟨a,M',h,rfl,rfl⟩ (fun b M2 ⟨e1,e2⟩=>by rw[e1,e2];exact q)
theorem cZ {tg:D->aa->DM aa}{fb:aa->DM Fl} (I:Nat->aa->Mo->Prop):∀ (ds:List D) (i:Nat) (δ:aa) (M:Mo),I i δ M->(∀ j d δ M,ds[j]?=some d->I (i + j) δ M->Rn (tg d δ >>= fb) M fun r M'=>∃ δ',r=.nx δ'∧I (i + j + 1) δ' M')->Rn (forL tg fb ds δ) M fun r M'=>∃ δ',r=.nx δ'∧I (i + ds.length) δ' M'
 |[],i,δ,M,h,_=>Rn.pure ⟨δ,rfl,h⟩
 | d::ds,i,δ,M,h,st=>by
   have s:=st 0 d δ M rfl h
   have e:forL tg fb (d::ds) δ=(tg d δ>>=fb)>>=fun r=>match r with
    |.nx δ2=>forL tg fb ds δ2
    |.ct δ2=>forL tg fb ds δ2
    |.bk δ2=>Pure.pure (.nx δ2)
    |.rt d=>Pure.pure (.rt d):=by rw[aL];rfl
   rw[e]
   refine Rn.bind s fun r M' ⟨δ',e,h'⟩=>?_
   subst e
   have ih:=cZ I ds (i+1) δ' M' h' (fun j d δ M hj hI=>by
    have:=st (j+1) d δ M (by simpa using hj) (by rw[show i+(j+1)=i+1+j by omega];exact hI)
    rw[show i+1+j+1=i+(j+1)+1 by omega];exact this)
   rw[show i+(d::ds).length=i+1+ds.length by simp;omega]
   exact ih
end L3
namespace L3
open PySem PySem.Spec L2
open PyProof.Rows hiding St
theorem zY {X:Cx}{E:XK}{i:Nat}{x:Str}{px spos:Pos}{scope:Scope}{cl:List (Str×Addr)}{own:List Str}{js:List Nat}{fr:List Str}{elt t0 i0:Expr}{f0:List Expr}{gs:List Comprehension}{pos:Pos}{fi:aa->DM Itn}{fg:D->aa->DM aa}{ft:aa->DM Bool}{fb:aa->List D->DM (aa×List D)}
  {bodyK:Cx->Addr->Sem Fin->Sem Fin}{W:Cx->Addr->(Shared->Prop)->Shared->Prop} (o:Out) (hN:X.N.Nodup) (hi0:X.N[i]?=some x) (hx:Loc X.env.scope x) (hc:X.calm=true) (T:CompG X scope cl own js fr) (hi:DI X E t0 i0 fi)
  (hturn:∀(Y:Cx) it acc,compTurn (.ListComp elt (⟨t0,i0,f0,0⟩::gs) scope pos) 0 (.ref it) (.ref acc) Y.env=turnOf ⟨t0,i0,f0,0⟩ (bodyK Y acc) (.compLoop (.ListComp elt (⟨t0,i0,f0,0⟩::gs) scope pos) 0 (.ref it) (.ref acc) Y.env) (.ref it) Y.env)
  (hW:∀Y acc,oh Y.prog Y.w Y.A (bodyK Y acc) (W Y acc)) (hmono:∀Y acc P P' s,(∀s,P s->P' s)->W Y acc P s->W Y acc P' s)
  (hg:∀pins m fp C s₂ H₂,DG (X.aP pins scope (cellsFrom m scope.names cl) (own++fr) fp C s₂ H₂) E0 t0 fg) (ht:∀pins m fp C s₂ H₂,DTs (X.aP pins scope (cellsFrom m scope.names cl) (own++fr) fp C s₂ H₂) E0 f0 ft)
  (hb:∀pins m fp C s₂ H₂ acc,BodyOk (X.aP pins scope (cellsFrom m scope.names cl) (own++fr) fp C s₂ H₂) acc (W (X.aP pins scope (cellsFrom m scope.names cl) (own++fr) fp C s₂ H₂) acc) fb)
  (hsw:swapsWith (.ListComp elt (⟨t0,i0,f0,0⟩::gs) scope pos) (some (.Name x px)) spos.line X.env=pure true:=by rfl)
  (hs:∀y,foldedSetIterable i0 X.env y=pure y:=by intro _;rfl) (hf:X.fn x=true∨X.env.scope.names.lookup x=some .local:=by first | exact .inl rfl | exact .inr rfl | assumption) :
  DS X E (.Assign [.Name x px] (.ListComp elt (⟨t0,i0,f0,0⟩::gs) scope pos) spos) (fun δ=>(fi δ>>=fun it=>bY (cz fg ft fb it (aW own.length js δ) [])>>=fun p=>o.run p.2)>>=fun d=>pure (.nx (δ.set i (some d)))):=⟨by
 intro pins s σ H D I h
 obtain⟨ρ,δ,M,ev,j,g0⟩:=h
 let Q:VK:=fun v H'=>D.nx (σ.set i (some v)) H'
 have g1:Go X.mg E (Cv X.mg) Q ρ H (fi δ>>=fun it=>bY (cz fg ft fb it (aW own.length js δ) [])>>=fun p=>o.run p.2) M:=g0.bind fun ρ1 H1 M1 v d e1 j1 c1 g2=>g2.pure ρ1 H1 _ .refl j1 ((ev.mono e1).set c1)
 rw[exec_Assign_Name_used _ _ _ _ hsw]
 refine wpAny_bind (wpAny_standAt (wpAny_bind ?_))
 show wpAny _ _ (do let _ ←comprehension (.ListComp elt (⟨t0,i0,f0,0⟩::gs) scope pos) scope X.env _ (newList []) false (eval i0 X.env) (some (assign (.Name x px) X.env))) _ _ s
 refine wpAny_bind (wpAny_mono (wpAny_comprehension_free (cl:=cl) (use:=some (assign (.Name x px) X.env)) (Q:=fun _ s'=>∃v H',Inv X pins (σ.set i (some v)) H' s'∧Q v H') rfl hs T.clos T.kind T.names ?_) (fun _ s' ⟨v,H',I',q'⟩=>wpAny_pure (wpAny_pure ⟨_,H',I',q'⟩)) fun _ _ e=>e)
 refine thn (hi.h pins s σ H (fun Jt H1=>∃ρ1 M1 it,Ext ρ H ρ1 H1∧J X.mg ρ1 M1 H1∧ItOk X.mg ρ1 H1 Jt it∧Go X.mg E (Cv X.mg) Q ρ1 H1 (bY (cz fg ft fb it (aW own.length js δ) [])>>=fun p=>o.run p.2) M1) I
  ⟨ρ,δ,M,ev,j,g1.bind fun ρ1 H1 M1 Jt it e1 j1 iok g2=>⟨ρ1,M1,it,e1,j1,iok,g2⟩⟩) fun v s1 h1=>thn h1 fun itv s2 h2=>?_
 obtain⟨it,fp,tn,Jt,H2,rfl,I2,Tn,st2,f2,ρ1,M1,itn,x1,j1,iok,g2⟩:=h2
 have hrun:∃δf lf Mf,cz fg ft fb itn (aW own.length js δ) [] M1=some (.ok (δf,lf),Mf)∧Go X.mg E (Cv X.mg) Q ρ1 H2 (o.run lf) Mf:=by
  obtain⟨r,e,p⟩:=g2
  have e:DM.bind _ _ M1=some r:=e
  unfold DM.bind at e
  split at e
  ·cases e
  ·rename_i c M' em
   obtain⟨a,M'',_,z⟩:=fB em
   cases z
  ·rename_i a M' em
   obtain⟨a',M'',e1,z⟩:=fB em
   cases z
   exact⟨a.1,a.2,M',e1,r,e,p⟩
 obtain⟨δf,lf,Mf,hrun,g3⟩:=hrun
 unfold newList
 refine wpAny_newObj_type (lw ?_)
 have hlt:∀b∈fp,b<s2.heap.objs.size:=fun b hb=>by
  obtain⟨o,e,_⟩:=Tn.obj _ _ st2 b hb
  exact Heap.lt_size e
 dsimp only
 generalize hP:s2.heap.push { cls:=.type "list",dict:=none,data:=.seq ([]:List Value).toArray }=hp1
 have hCs:hp1.objs.size=s2.heap.objs.size+1:=by rw[←hP,Heap.size_push]
 have hCe:hp1.objs.size+1=(hp1.push { cls:=.type "dict",data:=.dict #[] }).objs.size:=by rw[Heap.size_push]
 have hC:s2.heap.objs.size≤hp1.objs.size:=by omega
 have hne:hp1.objs.size≠s2.heap.objs.size:=by omega
 have old1:∀b o,s2.heap.get? b=some o->hp1.get? b=some o:=fun b o e=>by rw[←hP];exact Heap.get?_push_of_some _ e
 have old:∀b o,s2.heap.get? b=some o->(pushCells (hp1.push { cls:=.type "dict",data:=.dict #[] }) scope.names).get? b=some o:=fun b o e=>pushCells_keeps _ _ _ _ (Heap.get?_push_of_some _ (old1 b o e))
 have new:∃n,(pushCells (hp1.push { cls:=.type "dict",data:=.dict #[] }) scope.names).get? s2.heap.objs.size=some { cls:=.type "list",data:=.seq #[] n }:=⟨_,pushCells_keeps _ _ _ _ (Heap.get?_push_of_some _ (by rw[←hP];exact Heap.get?_push_size _ rfl))⟩
 have ns:(pushCells (hp1.push { cls:=.type "dict",data:=.dict #[] }) scope.names).Ns hp1.objs.size fun _=>none:=(Heap.Ns.new hp1 (.type "dict")).keeps (pushCells_keeps _ _)
 have hfree:H2 s2.heap.objs.size=none:=I2.hok.fresh (Nat.le_refl _)
 have IC:=kj (t':=s2.toks) T I2 f2 hlt old (Nat.le_refl _) hC hne hCe (Nat.le_trans hC (Nat.le_succ _)) (Nat.lt_succ_self _) (Nat.lt_succ_of_le hC) rfl new ns
 have OK:=IC.ok
 have fok:∀H',(∀b∈fp,H' b=none)->∀b∈fp,FpOk (X.aP pins scope (cellsFrom (hp1.objs.size+1) scope.names cl) (own++fr) fp hp1.objs.size s2 H2) [] H' b:=fun H' hn b hb=>by
  obtain⟨_,g2,g3,g4,g5,g6⟩:=f2 b hb
  refine⟨hn b hb,Nat.ne_of_lt (Nat.lt_of_lt_of_le (hlt b hb) hC),fun hm=>?_,.inl hb,(OK.exf b hb).2,fun p hp=>g6 p (by simpa using hp)⟩
  rcases List.mem_cons.mp (I2.stkSub _ hm) with z | z
  ·exact g2 z
  ·exact g3 z
 have fp1:∀b∈fp,upd H2 s2.heap.objs.size (.lst []) b=none:=fun b hb=>by rw[upd_ne (Nat.ne_of_lt (hlt b hb))];exact (f2 b hb).1
 have jb:=j1.begin hfree
 have nf:=j1.fresh hfree
 have st:Cst (X.aP pins scope (cellsFrom (hp1.objs.size+1) scope.names cl) (own++fr) fp hp1.objs.size s2 H2) [] s2.heap.objs.size (ρ1.hold s2.heap.objs.size) (upd H2 s2.heap.objs.size (.lst [])) (aW own.length js δ) [] M1 fp
   { s2 with heap:=pushCells (hp1.push { cls:=.type "dict",data:=.dict #[] }) scope.names,toks:=s2.toks }:=
  ⟨_,_,_,[],IC,.refl (fun z=>nf (.inl z)),jb,(lV (ev.mono x1) _ _).kp (eO hfree),upd_same,.nil,fp1⟩
 have tn0:tn 0 (pushCells (hp1.push { cls:=.type "dict",data:=.dict #[] }) scope.names):=Tn.keep _ _ _ st2 (fun b _ o e=>old b o e)
 have loop:codeAny (model X.prog X.w) X.A (.compLoop (.ListComp elt (⟨t0,i0,f0,0⟩::gs) scope pos) 0 (.ref it) (.ref s2.heap.objs.size) (compEnvC scope (cellsFrom (hp1.objs.size+1) scope.names cl) hp1.objs.size X.env))
   (compPost (model X.prog X.w) X.A X.xe (some (assign (.Name x px) X.env)) (fun _ s'=>∃v H',Inv X pins (σ.set i (some v)) H' s'∧Q v H') (.ref s2.heap.objs.size) hp1.objs.size) { s2 with heap:=pushCells (hp1.push { cls:=.type "dict",data:=.dict #[] }) scope.names,toks:=s2.toks }:=by
  refine yJ (X:=X.aP pins scope (cellsFrom (hp1.objs.size+1) scope.names cl) (own++fr) fp hp1.objs.size s2 H2) hc rfl (hturn _ _ _) (hW _ _) (hmono _ _) (hg ..) (ht ..) (hb pins (hp1.objs.size+1) fp hp1.objs.size s2 H2 s2.heap.objs.size) Tn iok (.head _) (eO hfree) fok st tn0 hrun fun s' c'=>?_
  obtain⟨σ4,H4,ρ4,ys,I4,x4,j4,ev4,ha4,cl4,fr4⟩:=c'.ex
  obtain⟨m4,hn4,_⟩:=I4.loc
  have hsb0:Heap.SameBut hp1.objs.size s'.heap s'.heap:=⟨rfl,fun _ _=>rfl⟩
  have un:=uw I4.base hsb0 hC
  have ok4:=pZ I4.hok hsb0 I4.free
  have IO:Inv X pins σ H4 s':=I2.call' (s':=s') (ch:=fp) (I4.os) un ok4 I4.bare (fun b hb=>by
   obtain⟨_,g2,g3,g4,g5,g6⟩:=f2 b hb
   exact⟨g4,g2,g5,g6⟩)
  have fC:FpOk X pins H4 hp1.objs.size:=I2.fpOk hC I4.free
  obtain⟨fC1,fC2,fC3,fC4,fC5,fC6⟩:=fC
  show wpAny _ _ (assign (.Name x px) X.env (.ref s2.heap.objs.size)) _ _ s'
  refine wpAny_assign_Name (store_ok2 IO hN hi0 hx (v:=.ref s2.heap.objs.size) rfl (fun s'' I'' hsb=>?_) hf)
  obtain⟨a,sb,ha⟩:=hsb
  have nC:hp1.objs.size≠a:=by
   rcases ha with z | z
   ·rw[z];exact fC2
   ·exact fun e=>fC5 x a z e.symm
  refine⟨m4,hn4.sameBut sb nC,fun h' hsb'=>⟨.ref s2.heap.objs.size,H4,?_,o.fin hfree nf x4 j4 ha4 cl4 g3⟩⟩
  exact I''.turned (it:=hp1.objs.size) (t':=s''.toks) (fun b o hb e=>hsb'.extBut b o hb e) fC1 fC2 fC4 (fun y c e=>fC5 y c e) fC6
 show codeAny _ _ (.compStart _ 0 (.ref it) (.ref s2.heap.objs.size) (compEnvC scope (cellsFrom (hp1.objs.size+1) scope.names cl) hp1.objs.size X.env)) _ _
 exact lL rfl rfl loop (Tn.self X.A 0 _ _ _ tn0 loop)⟩
theorem sW{X:Cx}{E:XK}{i:Nat}{x:Str}{px spos:Pos}{scope:Scope}{cl:List (Str×Addr)}{own:List Str}{js:List Nat}{fr:List Str}{elt t0 i0:Expr}{f0:List Expr}{pos:Pos}{fi:aa->DM Itn}{fg:D->aa->DM aa}{ft:aa->DM Bool}{fe:aa->DM D}
  (o:Out) (hN:X.N.Nodup) (hi0:X.N[i]?=some x) (hx:Loc X.env.scope x) (hc:X.calm=true) (T:CompG X scope cl own js fr) (hi:DI X E t0 i0 fi)
  (hg:∀pins m fp C s₂ H₂,DG (X.aP pins scope (cellsFrom m scope.names cl) (own++fr) fp C s₂ H₂) E0 t0 fg) (ht:∀pins m fp C s₂ H₂,DTs (X.aP pins scope (cellsFrom m scope.names cl) (own++fr) fp C s₂ H₂) E0 f0 ft)
  (he:∀pins m fp C s₂ H₂,DE (X.aP pins scope (cellsFrom m scope.names cl) (own++fr) fp C s₂ H₂) E0 elt fe)
  (hsw:swapsWith (.ListComp elt [⟨t0,i0,f0,0⟩] scope pos) (some (.Name x px)) spos.line X.env=pure true:=by rfl)
  (hs:∀y,foldedSetIterable i0 X.env y=pure y:=by intro _;rfl) (hf:X.fn x=true∨X.env.scope.names.lookup x=some .local:=by first | exact .inl rfl | exact .inr rfl | assumption) :
  DS X E (.Assign [.Name x px] (.ListComp elt [⟨t0,i0,f0,0⟩] scope pos) spos) (fun δ=>(fi δ>>=fun it=>bY (cz fg ft (bO fe) it (aW own.length js δ) [])>>=fun p=>o.run p.2)>>=fun d=>pure (.nx (δ.set i (some d)))):=
 zY (bodyK:=fun Y acc=>jm elt (.ref acc) Y.env) (W:=fun Y acc P s=>wpAny (model Y.prog Y.w) Y.A (eval elt Y.env) (fun x s1=>wpAny (model Y.prog Y.w) Y.A (call (.builtin "list.append") [.ref acc,x]) (fun _ s2=>P s2) (fun _ _=>False) s1) (fun _ _=>False) s) o hN hi0 hx hc T hi
  (fun Y it acc=>w6 ..) (fun Y acc=>xY) (fun Y acc P P' s hp h=>wpAny_mono h (fun x s1 h1=>wpAny_mono h1 (fun _ s2 h2=>hp _ h2) fun _ _ z=>z) fun _ _ z=>z) hg ht (fun pins m fp C s₂ H₂ acc=>uR rfl (he ..)) hsw hs hf
end L3
namespace L3
open PySem PySem.Spec L2
structure OCls(K:PySem.W.Frag)(mg:Str->Option Value)(c:Str)(C:Addr)(fs:List Str):Prop where
 at_:mg c=some (.ref C)
 cls:L2.Cls K C
 no:∀f∈fs,NoAttr K C f
theorem nG {mg:Str->Option Value}{ρ:Rh}{H:Hp}{f:Str}:∀ {ns:List Str}{xs:List V}{ds:List D}{d:D},Cvs mg ρ H xs ds->(ns.zip ds).lookup f=some d->∃ v,(ns.zip xs).lookup f=some v∧Cv mg ρ H v d
 |[],_,_,_,_,e=>by simp at e
 |n::ns,_,_,_,.nil,e=>by simp at e
 |n::ns,_,_,d,.cons (v:=v) c cs,e=>by
   rw[List.zip_cons_cons,List.lookup_cons] at e ⊢
   split at e
   ·cases e;exact⟨v,rfl,c⟩
   ·exact nG cs e
def wg (c f:Str):D->Mo->Option D
 |.obj k ns vs,_=>if k=c then (ns.zip vs).lookup f else none
 |.ref n,M=>match M[n]? with
   |some (.ins k ns vs)=>if k=c then (ns.zip vs).lookup f else none
   |_=>none
 |_,_=>none
theorem kI {X:Cx}{E:XK}{K:PySem.W.Frag}{mg:Str->Option Value}{c f:Str}{C:Addr}{fs:List Str}{e:Expr}{fe:aa->DM D}{pos:Pos} (O:OCls K mg c C fs) (hf:f∈fs) (he:DE X E e fe)
  (hb:attributeBase e f X.env (eval e X.env)=eval e X.env:=by rfl) (hK:X.K=K:=by rfl) (hM:X.mg=mg:=by rfl):DE X E (.Attribute e f pos) (fun δ=>fe δ>>=fun x=>rd (wg c f x)):=by
 subst hK hM
 refine⟨PE.mono (pe_fld he.h hb) fun σ H Q h=>?_⟩
 obtain⟨ρ,δ,M,ev,j,g1⟩:=h
 refine⟨ρ,δ,M,ev,j,g1.bind fun ρ1 H1 M1 x dx e1 j1 c1 g2=>?_⟩
 obtain⟨d,ed,q⟩:=g2.rd
 unfold wg at ed
 split at ed
 ·split at ed
  ·rename_i hk
   subst hk
   cases c1 with
   |obj n m h l cs=>
     obtain⟨v,hv,cv⟩:=nG cs ed
     rw[O.at_] at m;cases m
     exact⟨_,_,_,_,v,rfl,h,O.cls,O.no f hf,hv,q ρ1 H1 _ .refl j1 cv⟩
  ·cases ed
 ·split at ed
  ·split at ed
   ·rename_i hm hk
    subst hk
    cases c1 with
    |ref hn=>
      obtain⟨C',dx',xs,m,h,l,cs⟩:=j1.obj _ _ _ hn hm
      obtain⟨v,hv,cv⟩:=nG cs ed
      rw[O.at_] at m;cases m
      exact⟨_,_,_,_,v,rfl,h,O.cls,O.no f hf,hv,q ρ1 H1 _ .refl j1 cv⟩
   ·cases ed
  ·cases ed
 ·cases ed
def wz:List D->Mo->Option (List D)
 |[.int j],_=>if -(2^62)≤j∧j≤2^20 then some ((List.range j.toNat).map nD) else none
 |_,_=>none
theorem uO{mg:Str->Option Value}{ρ:Rh}{H:Hp}:∀l:List Nat,Cvs mg ρ H (l.map fun i:Nat=>V.int (i:Int)) (l.map nD)
 |[]=>.nil
 |n::l=>.cons (.int _) (uO l)
section
variable{X:Cx}{E:XK}{a:Expr}{fa:aa->DM (List D)}{p1 p2 pos1 pos2:Pos}
theorem xT (hc:X.calm=true) (hmL:X.mg "list"=none) (hm:X.mg "range"=none) (ha:DA X E [a] fa) (hgL:Gl X "list":=by rfl) (hg:Gl X "range":=by rfl) (hs:notStar a=true:=by rfl) :
  DE X E (.Call (.Name "list" p1) [.Call (.Name "range" p2) [a] [] pos2] [] pos1) (fun δ=>fa δ>>=fun l=>rd (fun M=>(wz l M).map D.lst)):=⟨PE.mono (yS hc hgL hmL hg hm ha.h.h hs) fun σ H Q h=>by
 obtain⟨ρ,δ,M,ev,j,g1⟩:=h
 refine⟨ρ,δ,M,ev,j,g1.bind fun ρ1 H1 M1 xs ds e1 j1 c1 g2=>?_⟩
 obtain⟨d,ed,q⟩:=g2.rd
 obtain⟨l,el,rfl⟩:=Option.map_eq_some_iff.mp ed
 unfold wz at el
 split at el
 ·split at el
  ·rename_i hb
   cases el
   obtain⟨v,rfl,k⟩:=c1.one
   cases k
   exact⟨_,rfl,hb.2,hb.1,fun p hp=>q ρ1 _ _ (.lay hp) (j1.lay _ hp) (.lst (j1.fresh hp) upd_same (uO _))⟩
  ·cases el
 ·cases el⟩
end
theorem qU {fg:D->aa->DM aa}{ft:aa->DM Bool}{fb:aa->List D->DM (aa×List D)} (I:Nat->aa->List D->Mo->Prop):∀ (ds:List D) (i:Nat) (δ:aa) (l:List D) (M:Mo),I i δ l M->
  (∀j d δ l M,ds[j]?=some d->I (i+j) δ l M->Rn (fg d δ>>=fun δ1=>ft δ1>>=fun b=>if b then fb δ1 l else Pure.pure (δ1,l)) M fun p M'=>I (i+j+1) p.1 p.2 M')->Rn (bf fg ft fb ds δ l) M fun p M'=>I (i+ds.length) p.1 p.2 M'
 |[],i,δ,l,M,h,_=>Rn.pure h
 | d::ds,i,δ,l,M,h,st=>by
   have s:=st 0 d δ l M rfl h
   have e:bf fg ft fb (d::ds) δ l=(fg d δ>>=fun δ1=>ft δ1>>=fun b=>if b then fb δ1 l else Pure.pure (δ1,l))>>=fun p=>bf fg ft fb ds p.1 p.2:=by
    rw[aL]
    show (fg d δ>>=fun δ1=>ft δ1>>=fun b=>(if b then fb δ1 l else Pure.pure (δ1,l))>>=fun p=>bf fg ft fb ds p.1 p.2)=_
    congr 1
    funext δ1
    rw[aL]
   rw[e]
   refine Rn.bind s fun p M' h'=>?_
   have ih:=qU I ds (i+1) p.1 p.2 M' h' (fun j d δ l M hj hI=>by
    have:=st (j+1) d δ l M (by simpa using hj) (by rw[show i+(j+1)=i+1+j by omega];exact hI)
    rw[show i+1+j+1=i+(j+1)+1 by omega];exact this)
   rw[show i+(d::ds).length=i+1+ds.length by simp;omega]
   exact ih
theorem Ef{α:Type}{m:DM α}{M:Mo}{Q:α->Mo->Prop}(h:Rn m M Q):Rn (bY m) M Q:=by
 obtain⟨a,M',e,q⟩:=h
 exact⟨a,M',by unfold bY;rw[e],q⟩
theorem Ar{n:Nat}{M:Mo}{β:Type}{k:D->DM β}{Q:β->Mo->Prop}(hn:n≤1000)(q:Rn (k (.ref M.length)) (M++[.lst ((List.replicate n 0).map nD)]) Q):Rn (FQ (.lst [.int 0]) (nD n)>>=k) M Q:=by
 have e:tW (.lst [.int 0]) (nD n) M=some ((List.replicate n 0).map nD):=by
  show wM [.int 0] (n:Int)=_
  unfold wM
  rw[if_pos (decide_eq_true ⟨by omega,by omega,by show _≤2^24;simp;omega⟩)]
  congr 1
  simp[List.flatten_replicate_singleton,nD]
 show Rn ((rd (tW (.lst [.int 0]) (nD n))>>=cG)>>=k) M Q
 rw[aL]
 refine Rn.bindRd _ e ?_
 exact Rn.cG (by simp;omega) q
end L3
namespace L3
open PySem PySem.Spec L2
open PyProof.Rows hiding St
def putN(f:Str):List Str->List Str
 |[]=>[f]
 |g::r=>if g=f then g::r else g::putN f r
def gM{α:Type}(f:Str)(v:α):List Str->List α->List α
 |[],_=>[v]
 |g::r,x::xs=>if g=f then v::xs else x::gM f v r xs
 |_::_,[]=>[]
theorem uc (f:Str) (v:V):∀ (ns:List Str) (xs:List V),ns.length=xs.length->putF f v (ns.zip xs)=(putN f ns).zip (gM f v ns xs)
 |[],[],_=>rfl
 |g::r,x::xs,h=>by
   show putF f v ((g,x)::r.zip xs)=_
   unfold putF putN gM
   by_cases e:g=f
   ·rw[if_pos e,if_pos e,if_pos e];rfl
   ·rw[if_neg e,if_neg e,if_neg e,uc f v r xs (by simpa using h)];rfl
theorem ud {α:Type} (f:Str) (v:α):∀ (ns:List Str) (xs:List α),ns.length=xs.length->(putN f ns).length=(gM f v ns xs).length
 |[],[],_=>rfl
 |g::r,x::xs,h=>by
   unfold putN gM
   by_cases e:g=f
   ·rw[if_pos e,if_pos e];simpa using h
   ·rw[if_neg e,if_neg e,List.length_cons,List.length_cons,ud f v r xs (by simpa using h)]
theorem Cvs.put {mg:Str->Option Value}{ρ:Rh}{H:Hp}{f:Str}{v:V}{d:D} (c:Cv mg ρ H v d):∀ (ns:List Str) {xs:List V}{ds:List D},Cvs mg ρ H xs ds->Cvs mg ρ H (gM f v ns xs) (gM f d ns ds)
 |[],_,_,_=>.cons c .nil
 |g::r,_,_,.nil=>.nil
 |g::r,_,_,.cons h t=>by
   unfold gM
   by_cases e:g=f
   ·rw[if_pos e,if_pos e];exact .cons c t
   ·rw[if_neg e,if_neg e];exact .cons h (Cvs.put c r t)
def rH (c f:Str) (o d:D):DM Unit:=fun M=>match o with
 |.ref n=>match M[n]? with
   |some (.ins k ns vs)=>if k=c∧ns.length=vs.length∧ns.length<1000 then some (.ok (),M.set n (.ins k (putN f ns) (gM f d ns vs))) else none
   |_=>none
 |_=>none
section
variable{X:Cx}{E:XK}
theorem xW {K:PySem.W.Frag}{mg:Str->Option Value}{c f:Str}{C:Addr}{fs:List Str}{o value:Expr}{fo fv:aa->DM D}{pos pos':Pos} (O:OCls K mg c C fs) (hf:f∈fs) (ho:DE X E o fo) (hv:DE X E value fv)
  (hs:swapsWith value (some (.Attribute o f pos')) pos.line X.env=pure false:=by rfl) (hK:X.K=K:=by rfl) (hM:X.mg=mg:=by rfl) :
  DS X E (.Assign [.Attribute o f pos'] value pos) (fun δ=>fv δ>>=fun d=>fo δ>>=fun o=>rH c f o d>>=fun _=>pure (.nx δ)):=by
 subst hK hM
 refine⟨PS.mono (ps_fld ho.h hv.h hs) fun D σ H h=>?_⟩
 obtain⟨ρ,δ,M,ev,j,g1⟩:=h
 refine⟨ρ,δ,M,ev,j,g1.bind fun ρ1 H1 M1 y dy e1 j1 c1 g2=>⟨ρ1,δ,M1,ev.mono e1,j1,g2.bind fun ρ2 H2 M2 x dx e2 j2 c2 g3=>?_⟩⟩
 obtain⟨r,e,p⟩:=g3
 have e:DM.bind _ _ M2=some r:=e
 unfold DM.bind rH at e
 cases dx with
 | ref n=>
   dsimp only at e
   cases c2 with | ref hn=>
   rename_i a
   cases hm:M2[n]? with
   |none=>rw[hm] at e;cases e
   | some u=>
     rw[hm] at e
     cases u with
     |lst l=>cases e
     |dic ks l=>cases e
     | ins k ns vs=>
       dsimp only at e
       split at e
       ·cases e
       ·rename_i he;split at he<;>cases he
       ·rename_i he
        split at he
        ·rename_i hk
         obtain⟨rfl,hl,hz⟩:=hk
         cases he
         cases e
         obtain⟨C',dx',xs,m,hx,l,cs⟩:=j2.obj _ _ _ hn hm
         rw[O.at_] at m;cases m
         have c1':=c1.mono e2
         have x:Ext ρ2 H2 ρ2 (upd H2 a (.ins C dx' (putF f y (ns.zip xs)))):=.upd (List.mem_of_getElem? hn)
         refine⟨a,C,dx',_,rfl,hx,O.cls,O.no f hf,?_,?_⟩
         ·rw[List.length_zip];omega
         refine p ρ2 _ σ x (j2.upd hn ?_) (((ev.mono e1).mono e2).mono x)
         refine⟨C,dx',gM f y ns xs,O.at_,by rw[upd_same,uc f y ns xs l],ud f y ns xs l,?_⟩
         exact (Cvs.put c1' ns cs).mono x
        ·cases he
 |_=>cases e
end
structure MethD(P:Program)(w:World)(K:PySem.W.Frag)(mg:Str->Option Value)(base:Heap)(k:Nat)(c x qual:Str)(st:Stmt)(ps:List Str)(F:List D->DM D):Prop where
 ex:∃C f fd,mg c=some (.ref C)∧FnOk P w K mg base (bw P w) k f fd ps (vz mg F)∧Fun K x qual st f fd∧PySem.W.findIn K (.ref C) x=some (some (.ref f))∧PySem.W.isFn K (.ref f)=true∧L2.Cls K C
section
variable{P:Program}{w:World}{K:PySem.W.Frag}{mg:Str->Option Value}{base:Heap}{k:Nat}{C:Addr}{c x qual:Str}{N ps:List Str}{st:Stmt}{fb:aa->DM Fl}{f:Addr}{fd:FuncData}{is:List Int}
theorem I9 (F:Fun K x qual st f fd) (S:FnScope N ps (defScope st))
  (hbody:∀(f:Addr) (cdv:Value) (A:Around) (outer:List Env) (s:Shared) (H:Hp) (E:XK),Room k (A.deeper (envOfC qual (defScope st) s.heap.objs.size f cdv))->
    DSs (aH P w K mg base N qual (defScope st) f cdv A outer s H E) E (defBody st) fb):FnOk P w K mg base (bw P w) (k+1) f fd ps (vz mg (aF ps.length N.length fb)):=by
 refine Jb F S (fun vs H Q E h=>?_) fun cdv A outer s H vs Q E hr h=>?_
 ·obtain⟨ρ,M,ds,c,j,g⟩:=h
  rw[c.len];exact (aR.aF g).1
 obtain⟨ρ,M,ds,c,j,g⟩:=h
 exact⟨_,(hbody f cdv A outer s H E hr).h,ρ,_,M,jn c,j,(aR.aF g).2⟩
theorem MethAt.okD (T:MethAt K C x qual st) (m:mg c=some (.ref C)) (cl:L2.Cls K C) (S:FnScope N ps (defScope st))
  (hbody:∀(f:Addr) (cdv:Value) (A:Around) (outer:List Env) (s:Shared) (H:Hp) (E:XK),Room k (A.deeper (envOfC qual (defScope st) s.heap.objs.size f cdv))->
    DSs (aH P w K mg base N qual (defScope st) f cdv A outer s H E) E (defBody st) fb):MethD P w K mg base (k+1) c x qual st ps (aF ps.length N.length fb):=by
 obtain⟨f,fd,F,a,n⟩:=T.ex
 exact⟨C,f,fd,m,I9 F S hbody,F,a,n,cl⟩
end
def qb (c m:Str):D->Mo->Option Unit
 |.obj k ns _,_=>if k=c∧ns.contains m=false then some () else none
 |.ref n,M=>match M[n]? with
   |some (.ins k ns _)=>if k=c∧ns.contains m=false then some () else none
   |_=>none
 |_,_=>none
theorem n8 {m:Str}{α:Type}:∀ (ns:List Str) (xs:List α),ns.contains m=false->(ns.zip xs).lookup m=none
 |[],_,_=>rfl
 |n::ns,[],_=>rfl
 |n::ns,x::xs,h=>by
   rw[List.contains_cons,Bool.or_eq_false_iff] at h
   rw[List.zip_cons_cons,List.lookup_cons,h.1]
   exact n8 ns xs h.2
theorem uU {mg:Str->Option Value}{ρ:Rh}{H:Hp}{M:Mo}{c m:Str}{C:Addr}{v:V}{d:D}{u:Unit} (mc:mg c=some (.ref C)) (j:J mg ρ M H) (cv:Cv mg ρ H v d) (e:qb c m d M=some u):∃ a dx fs,v=.ref a∧H a=some (.ins C dx fs)∧fs.lookup m=none:=by
 unfold qb at e
 split at e
 ·split at e
  ·rename_i hk
   obtain⟨rfl,hn⟩:=hk
   cases cv with
   |obj n m' h l cs=>
     rw[mc] at m';cases m'
     exact⟨_,_,_,rfl,h,n8 _ _ hn⟩
  ·cases e
 ·split at e
  ·rename_i hm
   split at e
   ·rename_i hk
    obtain⟨rfl,hn⟩:=hk
    cases cv with
    |ref h=>
      obtain⟨C',dx',xs,m',hx,l,cs⟩:=j.obj _ _ _ h hm
      rw[mc] at m';cases m'
      exact⟨_,_,_,rfl,hx,n8 _ _ hn⟩
   ·cases e
  ·cases e
 ·cases e
structure DKw(X:Cx)(E:XK)(kws:List Keyword)(f:aa->DM (List D)):Prop where
 h:PK X kws (tD X.mg E (Cvs X.mg) f)
theorem PK.mono{X:Cx}{e:List Keyword}{t t':TA}(h:PK X e t)(f:∀σ H Q,t' σ H Q->t σ H Q):PK X e t':=fun p pins s σ H Q I q=>h p pins s σ H Q I (f σ H Q q)
section
variable{X:Cx}{E:XK}{j k:Nat}{ps:List Str}{F:List D->DM D}{c m x qual:Str}{st:Stmt}{p pos apos kpos:Pos}{a e o:Expr}{es:List Expr}{fa fo:aa->DM D}{fs fk:aa->DM (List D)}{kws:List Keyword}{nm:Option Str}{ks:List Str}
theorem oX:DKw X E [] (fun _=>pure []):=⟨PK.mono pk_nil fun σ H Q h=>by
 obtain⟨ρ,δ,M,ev,j,g⟩:=h
 exact g.pure ρ H [] .refl j .nil⟩
theorem vY(ha:DE X E a fa)(hr:DKw X E kws fs):DKw X E (⟨nm,a,kpos⟩::kws) (fun δ=>fa δ>>=fun x=>fs δ>>=fun xs=>pure (x::xs)):=⟨PK.mono (pk_cons ha.h hr.h) fun σ H Q h=>by
 obtain⟨ρ,δ,M,ev,j,g1⟩:=h
 exact⟨ρ,δ,M,ev,j,g1.bind fun ρ1 H1 M1 x dx e1 j1 c1 g2=>⟨ρ1,δ,M1,ev.mono e1,j1,g2.bind fun ρ2 H2 M2 xs dxs e2 j2 c2 g3=>g3.pure ρ2 H2 _ .refl j2 (.cons (c1.mono e2) c2)⟩⟩⟩
def gK{α:Type}(n:Nat)(us ws:List α):List α:=if ws.length=n then us++ws else []
theorem Fw {K:PySem.W.Frag}{f:Addr}{fd:FuncData} (B:Fun K x qual st f fd) (h0:0<ps.length)
  (hb:∀(kV doc pm:Value) (an:Option Addr) (cdv ct:Value) (us ws:List Value),ws.length=ks.length->us.length+ks.length=ps.length->bindArgs (PySem.W.fnOf x qual (defArgs st) (defBody st) (defScope st) .none kV doc pm an cdv ct) ⟨us,ks.zip ws⟩=pure (ps.zip (us++ws))):KBinds K fd ps ks (gK ks.length) (gK ks.length):=by
 obtain⟨oc,od,kV,doc,pm,an,cdv,ct,osl,rfl,lk,hcd⟩:=B.ex
 refine⟨fun s us ws _ hl=>?_,fun r r'=>?_⟩
 ·unfold gK at hl ⊢
  split at hl
  ·rename_i hw
   rw[if_pos hw]
   rw[List.length_append] at hl
   exact .of_eq (hb kV doc pm an cdv ct us ws hw (by omega))
  ·simp at hl;omega
 ·unfold gK
  rw[r'.length]
  split
  ·exact r.append r'
  ·exact .nil
theorem CG {pl:Sem Bool} (T:MethD X.prog X.w X.K X.mg X.base j c m qual st ps F) (hr:Room k X.A) (hx:Passes (bw X.prog X.w) X E) (ho:DE X E o fo) (ha:DA X E (e::es) fs)
  (hb:∀(kV doc pm:Value) (an:Option Addr) (cdv ct:Value) (us:List Value),us.length=ps.length->bindArgs (PySem.W.fnOf m qual (defArgs st) (defBody st) (defScope st) .none kV doc pm an cdv ct) ⟨us,[]⟩=pure (ps.zip us))
  (hjk:j≤k:=by decide) (he:notStar e=true:=by rfl) (hpl:(backTo pos (starEach es X.env)).any (·.1)=false:=by rfl)
  (ht:eval (.Call (.Attribute o m apos) (e::es) [] pos) X.env=(do
    let ov ←eval o X.env
    standAt apos.atName
    let (f,first) ←holding [ov] (getMethod ov m pl)
    callWith pos f first (backTo pos (starEach (e::es) X.env)) (backToKw pos (keywordEach [] X.env))):=by rfl) :
  DE X E (.Call (.Attribute o m apos) (e::es) [] pos) (fun δ=>fo δ>>=fun x=>rd (qb c m x)>>=fun _=>fs δ>>=fun ds=>F (x::ds)):=by
 obtain⟨C,f,fd,mc,G,B,a,n,cl⟩:=T.ex
 refine⟨PE.mono (pe_meth (pl:=pl) ho.h cl ⟨a,n,B.kp⟩ G (hr.mono hjk) (B.binds hb) .nil hx ha.h.h (aX he) hpl ht) fun σ H Q h=>?_⟩
 obtain⟨ρ,δ,M,ev,j,g1⟩:=h
 refine⟨ρ,δ,M,ev,j,g1.bind fun ρ1 H1 M1 x dx e1 j1 c1 g2=>?_⟩
 obtain⟨u,eu,g3⟩:=Go.rdb g2
 obtain⟨a',dx',fs',ex,hx',hl'⟩:=uU mc j1 c1 eu
 refine⟨a',dx',fs',ex,hx',hl',ρ1,δ,M1,ev.mono e1,j1,g3.bind fun ρ2 H2 M2 xs dxs e2 j2 c2 g4=>?_⟩
 rw[List.append_nil]
 exact⟨ρ2,M2,dx::dxs,.cons (c1.mono e2) c2,j2,g4⟩
def Hf(C:Addr)(m:Str)(sp:Sp)(gV:List V->List V->List V)(E:XK)(ta:TE)(t tk:TA):TE:=fun σ H Q=>ta σ H fun x H1=>∃a dx fs,x=.ref a∧H1 a=some (.ins C dx fs)∧fs.lookup m=none ∧
 t σ H1 fun vs H2=>tk σ H2 fun zs H3=>sp (gV (x::vs) zs) H3 Q E
theorem Bb {CX:CXT}{pl:Sem Bool}{ta:TE}{t tk:TA}{C f:Addr}{fd:FuncData}{sp:Sp}{g:List Value->List Value->List Value}{gV:List V->List V->List V} (he:PE X o ta) (cl:L2.Cls X.K C) (hm:Meth X.K C m f) (G:FnOk X.prog X.w X.K X.mg X.base CX k f fd ps sp) (hr:Room k X.A) (hb:KBinds X.K fd ps ks g gV) (hx:Passes CX X E) (ha:PA X (e::es) t) (hkw:PK X kws tk)
  (hall:(backToKw pos (keywordEach kws X.env)).all (·.1.isSome)=true) (hks:(backToKw pos (keywordEach kws X.env)).filterMap (·.1)=ks)
  (hst:starEach (e::es) X.env=(false,eval e X.env)::starEach es X.env) (hpl:((backTo pos (starEach (e::es) X.env)).any (·.1) || (backToKw pos (keywordEach kws X.env)).any (·.1.isNone))=false)
  (ht:eval (.Call (.Attribute o m apos) (e::es) kws pos) X.env=(do
    let ov ←eval o X.env
    standAt apos.atName
    let (f,first) ←holding [ov] (getMethod ov m pl)
    callWith pos f first (backTo pos (starEach (e::es) X.env)) (backToKw pos (keywordEach kws X.env)))) :
  PE X (.Call (.Attribute o m apos) (e::es) kws pos) (Hf C m sp gV E ta t tk):=by
 intro pins s σ H Q I h
 refine PySem.W.methodCall_KW (pl:=pl) (thn (he pins s σ H _ I h) fun u s1 ⟨x,H1,I1,rx,a,dx,fs,ex,ea,l,q⟩=>?_) ht
 subst ex
 obtain rfl:u=Value.ref a:=rx
 refine getmeth_ok I1 ea cl hm l ?_
 refine PySem.W.callWith_KW (first:=[.ref a]) (h₀:=X.base) I.ok.mod.kin hm.kp hall (thn (ha pos pins s1 σ H1 _ I1 q) fun us s2 ⟨vs,H2,I2,r,q2⟩=>?_) hpl hst
 refine thn (hkw pos pins s2 σ H2 _ I2 q2) fun ws s3 ⟨zs,H3,I3,rz,q3⟩=>⟨I3.kIn,?_⟩
 rw[hks]
 exact run_fnk (us:=.ref a::us) (vs:=.ref a::vs) G hr hb hx I3 (.cons rfl r) rz q3
theorem jk {pl:Sem Bool} (T:MethD X.prog X.w X.K X.mg X.base j c m qual st ps F) (hr:Room k X.A) (hx:Passes (bw X.prog X.w) X E) (ho:DE X E o fo) (ha:DA X E (e::es) fs) (hkw:DKw X E kws fk)
  (hb:∀(kV doc pm:Value) (an:Option Addr) (cdv ct:Value) (us ws:List Value),ws.length=ks.length->us.length+ks.length=ps.length->bindArgs (PySem.W.fnOf m qual (defArgs st) (defBody st) (defScope st) .none kV doc pm an cdv ct) ⟨us,ks.zip ws⟩=pure (ps.zip (us++ws)))
  (hjk:j≤k:=by decide) (h0:0<ps.length:=by decide) (hall:(backToKw pos (keywordEach kws X.env)).all (·.1.isSome)=true:=by rfl) (hks:(backToKw pos (keywordEach kws X.env)).filterMap (·.1)=ks:=by rfl)
  (he:notStar e=true:=by rfl) (hpl:((backTo pos (starEach (e::es) X.env)).any (·.1) || (backToKw pos (keywordEach kws X.env)).any (·.1.isNone))=false:=by rfl)
  (ht:eval (.Call (.Attribute o m apos) (e::es) kws pos) X.env=(do
    let ov ←eval o X.env
    standAt apos.atName
    let (f,first) ←holding [ov] (getMethod ov m pl)
    callWith pos f first (backTo pos (starEach (e::es) X.env)) (backToKw pos (keywordEach kws X.env))):=by rfl) :
  DE X E (.Call (.Attribute o m apos) (e::es) kws pos) (fun δ=>fo δ>>=fun x=>rd (qb c m x)>>=fun _=>fs δ>>=fun ds=>fk δ>>=fun dk=>if dk.length=ks.length then F (x::(ds++dk)) else stuck):=by
 obtain⟨C,f,fd,mc,G,B,a,n,cl⟩:=T.ex
 refine⟨PE.mono (Bb (pl:=pl) ho.h cl ⟨a,n,B.kp⟩ G (hr.mono hjk) (Fw B h0 hb) hx ha.h.h hkw.h hall hks (aX he) hpl ht) fun σ H Q h=>?_⟩
 obtain⟨ρ,δ,M,ev,j,g1⟩:=h
 refine⟨ρ,δ,M,ev,j,g1.bind fun ρ1 H1 M1 x dx e1 j1 c1 g2=>?_⟩
 obtain⟨u,eu,g3⟩:=Go.rdb g2
 obtain⟨a',dx',fs',ex,hx',hl'⟩:=uU mc j1 c1 eu
 refine⟨a',dx',fs',ex,hx',hl',ρ1,δ,M1,ev.mono e1,j1,g3.bind fun ρ2 H2 M2 xs dxs e2 j2 c2 g4=>⟨ρ2,δ,M2,(ev.mono e1).mono e2,j2,g4.bind fun ρ3 H3 M3 zs dzs e3 j3 c3 g5=>?_⟩⟩
 split at g5
 ·rename_i hl
  unfold gK
  rw[if_pos (by rw[c3.len];exact hl)]
  exact⟨ρ3,M3,dx::(dxs++dzs),.cons ((c1.mono e2).mono e3) ((c2.mono e3).append c3),j3,g5⟩
 ·obtain⟨r,e,_⟩:=g5;cases e
end
structure ClsD(P:Program)(w:World)(K:PySem.W.Frag)(mg:Str->Option Value)(base:Heap)(k:Nat)(c:Str)(F:List D->DM D):Prop where
 ex:∃C ps sp,MethC P w K mg base k C "__init__" ps sp∧PySem.W.makesIn K C=true∧PySem.W.keepIn K (.ref C)=true∧mg c=some (.ref C) ∧
  ∀ρ M H vs ds Q E,Cvs mg ρ H vs ds->J mg ρ M H->Go mg E (Cv mg) Q ρ H (F ds) M->∀x dx,H x=none->H dx=none->dx≠x->sp (.ref x::vs) (upd (upd H dx (.own x)) x (.ins C dx [])) (fun v H2=>v=.non∧Q (.ref x) H2) E
theorem Cz{X:Cx}{E:XK}{j k:Nat}{c:Str}{F:List D->DM D}{p pos:Pos}{e:Expr}{es:List Expr}{fs:aa->DM (List D)}(T:ClsD X.prog X.w X.K X.mg X.base j c F)(hr:Room k X.A)(hx:Passes (bw X.prog X.w) X E)(ha:DA X E (e::es) fs)(hjk:j+1≤k:=by decide)(hg:Gl X c:=by rfl)(hdb:(c==("__debug__":Str))=false:=by decide)
  (he:notStar e=true:=by rfl) (hpl:(backTo pos (starEach es X.env)).any (·.1)=false:=by rfl) :
  DE X E (.Call (.Name c p) (e::es) [] pos) (fun δ=>fs δ>>=F):=by
 obtain⟨C,ps,sp,G,mk,kc,m,h⟩:=T.ex
 refine⟨PE.mono (Ba G mk kc m hr hx ha.h hjk hg hdb he hpl) fun σ H Q z=>?_⟩
 obtain⟨ρ,δ,M,ev,j,g1⟩:=z
 refine⟨ρ,δ,M,ev,j,g1.bind fun ρ1 H1 M1 xs dxs e1 j1 c1 g2=>fun x dx h1 h2 h3=>?_⟩
 rw[List.append_nil]
 exact h ρ1 M1 H1 xs dxs Q E c1 j1 g2 x dx h1 h2 h3
def Iw(c:Str):DM D:=fun M=>some (.ok (.ref M.length),M++[.ins c [] []])
section
variable{mg:Str->Option Value}{ρ:Rh}{H:Hp}{k:Nat}{M':Mo}
mutual
theorem Cv.fz(hk:ρ.st.length=k):∀{v:V}{d:D},Cv mg ρ H v d->Fz M' k d d
 |_,_,.non=>.non
 |_,_,.bl b=>.bl b
 |_,_,.int i=>.int i
 |_,_,.str x=>.str x
 |_,_,.tup n h c=>.tup (Cvs.fz hk c)
 |_,_,.lst n h c=>.lst (Cvs.fz hk c)
 |_,_,.dic n h l c=>.dic (Cvs.fz hk c)
 |_,_,.obj n m h l c=>.obj (Cvs.fz hk c)
 |_,_,.scr n h=>.scr _
 |_,_,.ref h=>.old (by rw[←hk];exact (List.getElem?_eq_some_iff.mp h).1)
 |_,_,.cls h=>.cls _
 |_,_,.ty t=>.ty t
 |_,_,.exn a=>.exn a
theorem Cvs.fz(hk:ρ.st.length=k):∀{vs:List V}{ds:List D},Cvs mg ρ H vs ds->Fzs M' k ds ds
 |_,_,.nil=>.nil
 |_,_,.cons h t=>.cons (Cv.fz hk h) (Cvs.fz hk t)
end
theorem Cvs.fz_mem {k:Nat} (hk:ρ.st.length=k):∀ {vs:List V}{ds:List D},Cvs mg ρ H vs ds->∀ d∈ds,Fz M' k d d
 |_,_,.nil,d,h=>by cases h
 |_,_,.cons a t,d,h=>by
   rcases List.mem_cons.mp h with rfl | h
   ·exact a.fz hk
   ·exact Cvs.fz_mem hk t d h
theorem yj{M':Mo}{k:Nat}:∀{ds:List D},(∀d∈ds,Fz M' k d d)->Fzs M' k ds ds
 |[],_=>.nil
 |d::ds,h=>.cons (h d (by simp)) (yj fun e he=>h e (by simp[he]))
theorem J.fz{M:Mo}{o:DO}(j:J mg ρ M H):Il (M++[o]) M.length M:=by
 refine⟨rfl,fun n u h=>?_⟩
 have hn:=(List.getElem?_eq_some_iff.mp h).1
 refine⟨u,by rw[List.getElem?_append_left hn];exact h,?_⟩
 have hl:n<ρ.st.length:=by rw[j.len];exact hn
 have c:=j.obj n ρ.st[n] u (List.getElem?_eq_getElem hl) h
 cases u with
 |lst l=>obtain⟨xs,_,c⟩:=c;exact c.fz j.len
 |dic ks l=>obtain⟨xs,_,_,c⟩:=c;exact⟨rfl,c.fz j.len⟩
 |ins cc ns l=>obtain⟨C,dx,xs,_,_,_,c⟩:=c;exact⟨rfl,rfl,c.fz j.len⟩
end
def Ei(c:Str)(Fi:List D->DM D)(ds:List D)(M:Mo)(r':R D×Mo):Prop:=
 (∃ns vs,Fi (.ref M.length::ds) (M++[.ins c [] []])=some (.ok .non,M++[.ins c ns vs])∧(∀d∈vs,d∈ds∨∃i,d=.int i)∧r'=(.ok (.obj c ns vs),M)) ∨
 (∃e o,Fi (.ref M.length::ds) (M++[.ins c [] []])=some (.exc e,M++[o])∧r'=(.exc e,M))
theorem I8{P:Program}{w:World}{K:PySem.W.Frag}{mg:Str->Option Value}{base:Heap}{k:Nat}{c qual:Str}{st:Stmt}{ps:List Str}{Fi F':List D->DM D}(T:MethD P w K mg base k c "__init__" qual st ps Fi)
  (hb:∀(kV doc pm:Value) (an:Option Addr) (cdv ct:Value) (us:List Value),us.length=ps.length->bindArgs (PySem.W.fnOf "__init__" qual (defArgs st) (defBody st) (defScope st) .none kV doc pm an cdv ct) ⟨us,[]⟩=pure (ps.zip us))
  (hm:∀C,mg c=some (.ref C)->PySem.W.makesIn K C=true∧PySem.W.keepIn K (.ref C)=true) (hf:∀ds M r',F' ds M=some r'->Ei c Fi ds M r'):ClsD P w K mg base k c F':=by
 obtain⟨C,f,fd,mc,G,B,a,n,cl⟩:=T.ex
 refine⟨C,ps,_,⟨f,fd,G,B.binds hb,B.kp,a,n⟩,(hm C mc).1,(hm C mc).2,mc,fun ρ M H vs ds Q E cv j g x dx hx hdx hne=>?_⟩
 obtain⟨r',e,p⟩:=g
 have hx':upd H dx (.own x) x=none:=by rw[upd_ne (fun z=>hne z.symm)];exact hx
 have x1:Ext ρ H ρ (upd H dx (.own x)):=.lay hdx
 have j1:=j.lay (.own x) hdx
 have x2:Ext ρ (upd H dx (.own x)) (ρ.put x) (upd (upd H dx (.own x)) x (.ins C dx [])):=.put hx'
 have j2:J mg (ρ.put x) (M++[.ins c [] []]) (upd (upd H dx (.own x)) x (.ins C dx [])):=j1.put hx' ⟨C,dx,[],mc,upd_same,rfl,.nil⟩
 have hput:(ρ.put x).st[M.length]?=some x:=by
  show (ρ.st++[x])[M.length]?=some x
  rw[←j.len,List.getElem?_append_right (Nat.le_refl _)];simp
 refine⟨ρ.put x,M++[.ins c [] []],.ref M.length::ds,.cons (.ref hput) (cv.mono (x1.trans x2)),j2,?_⟩
 have sb:∀{ρ2 H2},Ext (ρ.put x) (upd (upd H dx (.own x)) x (.ins C dx [])) ρ2 H2->Sub ρ ρ2 M.length:=fun {ρ2 H2} y=>by
  obtain⟨τ,ht⟩:=y.pre
  exact⟨⟨[x]++τ,by rw[ht];show (ρ.st++[x])++τ=_;simp⟩,y.vo,j.len⟩
 have ex:∀{ρ2 H2},Ext (ρ.put x) (upd (upd H dx (.own x)) x (.ins C dx [])) ρ2 H2->Ext ρ H ρ H2:=fun {ρ2 H2} y=>⟨⟨[],by simp⟩,rfl,fun a h n=>absurd h n,fun b o hb hn=>y.keep b o (by
  have nx:b≠x:=ne_of_none hb hx
  have ndx:b≠dx:=ne_of_none hb hdx
  rw[upd_ne nx,upd_ne ndx];exact hb) (fun z=>by
  rcases List.mem_append.mp z with z | z
  ·exact hn z
  ·exact ne_of_none hb hx (List.mem_singleton.mp z))⟩
 rcases hf ds M r' e with ⟨ns,vs',e2,hv,rfl⟩ | ⟨er,o,e2,rfl⟩
 ·refine⟨_,e2,fun ρ2 H2 b y j3 cb=>?_⟩
  cases cb
  refine⟨rfl,p ρ H2 (.ref x) (ex y) (j3.freeze (sb y) j.len j.fz) ?_⟩
  have h3:ρ2.st[M.length]?=some x:=y.at hput
  obtain⟨C',dx',xs,m',hx3,l,cs⟩:=j3.obj M.length x (.ins c ns vs') h3 (by simp)
  refine .obj (j.fresh hx) m' hx3 l (Cvs.freeze (sb y) j3 (yj fun d hd=>?_) cs)
  rcases hv d hd with h | ⟨i,rfl⟩
  ·exact cv.fz_mem j.len d h
  ·exact .int i
 ·refine⟨_,e2,fun ρ2 H2 C2 y j3 m2=>?_⟩
  exact p ρ H2 C2 (ex y) (j3.freeze (sb y) j.len j.fz) m2
end L3
namespace L3
open PySem PySem.Spec L2
def wY:List D->Mo->Option (List D)
 |[d],M=>(aN d M).bind fun l=>(intsOf l).bind fun ns=>if ns.length≤60 then some ((dD ns).map D.int) else none
 |_,_=>none
theorem qR:∀ {l:List D}{ns:List Int},intsOf l=some ns->l=ns.map D.int
 |[],ns,e=>by cases e;rfl
 | d::l,ns,e=>by
   cases d with
   |int i=>
     simp only[intsOf,Option.map_eq_some_iff] at e
     obtain⟨ms,h,rfl⟩:=e
     rw[qR h];rfl
   |_=>simp[intsOf] at e
theorem sI {mg:Str->Option Value}{ρ:Rh}{H:Hp}:∀ {ns:List Int}{xs:List V},Cvs mg ρ H xs (ns.map D.int)->xs=ns.map V.int
 |[],_,.nil=>rfl
 |n::ns,_,.cons a t=>by
   cases a
   rw[sI t];rfl
section
variable{X:Cx}{E:XK}{a:Expr}{fa:aa->DM (List D)}{p1 p2 pos1 pos2:Pos}
theorem CJ (hc:X.calm=true) (hmL:X.mg "sorted"=none) (hm:X.mg "set"=none) (ha:DA X E [a] fa) (hgL:Gl X "sorted":=by rfl) (hg:Gl X "set":=by rfl) (hs:notStar a=true:=by rfl) :
  DE X E (.Call (.Name "sorted" p1) [.Call (.Name "set" p2) [a] [] pos2] [] pos1) (fun δ=>fa δ>>=fun l=>rd (fun M=>(wY l M).map D.lst)):=⟨PE.mono (Do hc hgL hmL hg hm ha.h.h hs) fun σ H Q h=>by
 obtain⟨ρ,δ,M,ev,j,g1⟩:=h
 refine⟨ρ,δ,M,ev,j,g1.bind fun ρ1 H1 M1 xs ds e1 j1 c1 g2=>?_⟩
 obtain⟨d,ed,q⟩:=g2.rd
 obtain⟨l,el,rfl⟩:=Option.map_eq_some_iff.mp ed
 unfold wY at el
 split at el
 ·rename_i d0
  obtain⟨l0,h0,el⟩:=Option.bind_eq_some_iff.mp el
  obtain⟨ns,h1,el⟩:=Option.bind_eq_some_iff.mp el
  split at el
  ·rename_i hn
   cases el
   have e0:=qR h1
   subst e0
   obtain⟨v,rfl,k⟩:=c1.one
   have fin:∀p,H1 p=some (.lst (ns.map V.int))->∃p' ns',[V.ref p]=[.ref p']∧H1 p'=some (.lst (ns'.map V.int))∧ns'.length≤60∧∀l,H1 l=none->Q (.ref l) (upd H1 l (.lst ((dD ns').map V.int))):=fun p hp=>
    ⟨p,ns,rfl,hp,hn,fun l hl=>q ρ1 _ _ (.lay hl) (j1.lay _ hl) (.lst (j1.fresh hl) upd_same (Cvs.ints _))⟩
   obtain⟨p,xs,rfl,hx,c⟩:=b8 j1 k h0
   exact fin p (by rw[hx,sI c])
  ·cases el
 ·cases el⟩
end
theorem lg{α:Type}{l:List α}(h:l.length=1):∃a,l=[a]:=match l,h with | [a],_=>⟨a,rfl⟩
theorem qm{α:Type}{l:List α}(h:l.length=2):∃a b,l=[a,b]:=match l,h with | [a,b],_=>⟨a,b,rfl⟩
theorem Al{α:Type}{l:List α}(h:l.length=3):∃a b c,l=[a,b,c]:=match l,h with | [a,b,c],_=>⟨a,b,c,rfl⟩
theorem Fy{α:Type}{l:List α}(h:l.length=4):∃a b c d,l=[a,b,c,d]:=match l,h with | [a,b,c,d],_=>⟨a,b,c,d,rfl⟩
def vU:D->DM D
 |.int n=>if 0≤n∧n<2^63 then pure (.int n) else stuck
 |_=>stuck
def ww(c:Str)(F:List D->DM D):List D->DM D
 |[.obj k ns vs]=>if k=c then F [.obj k ns vs]>>=vU else stuck
 |l=>rd (gG l)
theorem qM {X:Cx}{E:XK}{j k:Nat}{c qual:Str}{st:Stmt}{ps:List Str}{F:List D->DM D} (T:MethD X.prog X.w X.K X.mg X.base j c "__len__" qual st ps F) (hr:Room k X.A) (hx:Passes (bw X.prog X.w) X E)
  (hb:∀(kV doc pm:Value) (an:Option Addr) (cdv ct:Value) (us:List Value),us.length=ps.length->bindArgs (PySem.W.fnOf "__len__" qual (defArgs st) (defBody st) (defScope st) .none kV doc pm an cdv ct) ⟨us,[]⟩=pure (ps.zip us))
  (hjk:j+1≤k:=by decide):CallD X E (.builtin "len") (ww c F):=by
 obtain⟨C,f,fd,mc,G,B,a,n,cl⟩:=T.ex
 have MC:MethC X.prog X.w X.K X.mg X.base j C "__len__" ps (vz X.mg F):=⟨f,fd,G,B.binds hb,B.kp,a,n⟩
 intro pins s σ H vs us Q I rs q
 obtain⟨ρ,M,ds,j,cv,go⟩:=q
 unfold ww at go
 split at go
 ·rename_i k' ns ws
  split at go
  ·rename_i hk
   subst hk
   obtain⟨v,rfl,kv⟩:=cv.one
   cases kv with
   | obj hn m hh hl cs=>
     rw[mc] at m;cases m
     refine xN MC (hr.mono hjk) hx pins s σ H _ us Q I rs ⟨_,_,_,rfl,hh,ρ,M,_,cv,j,go.bind fun ρ1 H1 M1 b d e1 j1 c1 g2=>?_⟩
     unfold vU at g2
     split at g2
     ·split at g2
      ·rename_i hn2
       cases c1
       exact⟨_,rfl,hn2,g2.pure ρ1 H1 _ .refl j1 (.int _)⟩
      ·obtain⟨r,e,_⟩:=g2;cases e
     ·obtain⟨r,e,_⟩:=g2;cases e
  ·obtain⟨r,e,_⟩:=go;cases e
 ·exact call_lenD pins s σ H vs us Q I rs ⟨ρ,M,_,j,cv,go⟩
end L3
namespace L2
open PySem PySem.Spec PyProof.Rows
def Ha(ta tb:TE):TE:=fun σ H Q=>ta σ H fun x H1=>∃a:Str,x=.str a∧a.length≤sizeLine∧tb σ H1 fun y H2=>∃b:Str,y=.str b∧a.length+b.length≤sizeLine∧Q (.str (Str.empty++a++b)) H2
theorem Ay{X:Cx}{a b:Expr}{ta tb:TE}{pos:Pos}(ha:PE X a ta)(hb:PE X b tb):PE X (.JoinedStr [a,b] pos) (Ha ta tb):=by
 intro pins s σ H Q I h
 have el:∀y:Str,(Str.empty++y).length=y.length:=fun y=>by rw[strLen_append];show 0+y.length=y.length;omega
 refine JoinedStr_many (joinParts_cons (thn (ha pins s σ H _ I h) fun v s1 ⟨x,H1,I1,r1,q1⟩=>?_))
 obtain⟨sa,rfl,la,q1⟩:=q1
 obtain⟨t,rfl⟩:=r1
 refine⟨by rw[el];exact la,joinParts_cons (thn (hb pins s1 σ H1 _ I1 q1) fun v s2 ⟨y,H2,I2,r2,q2⟩=>?_)⟩
 obtain⟨sb,rfl,lb,q2⟩:=q2
 obtain⟨t2,rfl⟩:=r2
 have l2:(Str.empty++sa++sb).length≤sizeLine:=by rw[strLen_append,el];exact lb
 exact⟨l2,joinParts_nil ⟨.str _,H2,I2.tok _,⟨_,rfl⟩,q2⟩ l2⟩
end L2
namespace L3
open PySem PySem.Spec L2
def yC(fa fb:aa->DM D)(δ:aa):DM D:=fa δ>>=fun x=>opt (strOf x)>>=fun a=>(if a.length≤sizeLine then pure () else stuck)>>=fun _=>fb δ>>=fun y=>opt (strOf y)>>=fun b=>if a.length+b.length≤sizeLine then pure (.str (Str.empty++a++b)) else stuck
theorem sO{X:Cx}{E:XK}{a b:Expr}{fa fb:aa->DM D}{pos:Pos}(ha:DE X E a fa)(hb:DE X E b fb):DE X E (.JoinedStr [a,b] pos) (yC fa fb):=⟨PE.mono (Ay ha.h hb.h) fun σ H Q h=>by
 obtain⟨ρ,δ,M,ev,j,g1⟩:=h
 refine⟨ρ,δ,M,ev,j,Go.bind g1 fun ρ1 H1 M1 x dx e1 j1 c1 g2=>?_⟩
 obtain⟨sa,rfl,g2⟩:=g2.strOf
 obtain⟨h1,g2⟩:=g2.iteB
 cases c1
 refine⟨sa,rfl,h1,ρ1,δ,M1,ev.mono e1,j1,g2.bind fun ρ2 H2 M2 y dy e2 j2 c2 g3=>?_⟩
 obtain⟨sb,rfl,g3⟩:=g3.strOf
 obtain⟨h2,g3⟩:=g3.ite
 cases c2
 exact⟨sb,rfl,h2,g3.pure ρ2 H2 _ .refl j2 (.str _)⟩⟩
end L3
namespace L2
open PySem PySem.Spec PyProof.Rows
def Ih(i j k:Nat)(ta:TA):TS:=fun D σ H=>ta σ H fun vs H1=>∃v w z,vs=[v,w,z]∧D.nx (((σ.set i (some v)).set j (some w)).set k (some z)) H1
theorem Dt {X:Cx}{i j k:Nat}{x y z:Str}{a b c:Expr}{ta:TA}{px py pz pt pos:Pos}{kt k2 pt2} (hc:X.calm=true) (hN:X.N.Nodup) (hi:X.N[i]?=some x) (hj:X.N[j]?=some y) (hk:X.N[k]?=some z) (hij:i≠j) (hik:i≠k) (hjk:j≠k)
  (hx:X.env.scope.names.lookup x=some .local) (hy:X.env.scope.names.lookup y=some .local) (hz:X.env.scope.names.lookup z=some .local) (ha:PA X [a,b,c] ta)
  (hw:swappedStores [.Tuple [.Name x px,.Name y py,.Name z pz] kt pt] (.Tuple [a,b,c] k2 pt2) X.env=pure (some [x,y,z]))
  (hs:swapsWithSole [.Tuple [.Name x px,.Name y py,.Name z pz] kt pt] (.Tuple [a,b,c] k2 pt2) pos.line X.env=pure false:=by rfl) :
  PS X (.Assign [.Tuple [.Name x px,.Name y py,.Name z pz] kt pt] (.Tuple [a,b,c] k2 pt2) pos) (Ih i j k ta):=by
 intro pins s σ H D I h
 rw[exec_Assign_arm]
 refine wpAny_bind (wpAny_standAt ?_)
 rw[hs]
 refine wpAny_bind (wpAny_pure ?_)
 rw[if_neg (by decide)]
 refine wpAny_bind (Tuple_ (thn (ha _ pins s σ H _ I h) fun us s1 ⟨vs,H1,I1,r1,q1⟩=>?_))
 obtain⟨v,w,w3,e1,q1⟩:=q1
 subst e1
 obtain ⟨u1,u2,u3,rfl,rv,rw',rz⟩:∃ u1 u2 u3,us=[u1,u2,u3]∧RelV v u1∧RelV w u2∧RelV w3 u3:=by
  cases r1 with
  | cons p q=>
    cases q with
    | cons p' q'=>
      cases q' with
      |cons p2 q2=>
        cases q2
        exact⟨_,_,_,rfl,p,p',p2⟩
 refine wpAny_newObj_type ?_ (by show 3≤sizeLine;decide)
 have I2:Inv X pins σ H1 { s1 with heap:=s1.heap.push { cls:=.type "tuple",data:=.seq [u1,u2,u3].toArray } }:=I1.kept (t':=s1.toks) fun b o e=>Heap.get?_push_of_some _ e
 rw[hw]
 refine wpAny_bind (wpAny_pure ?_)
 show wpAny (model X.prog X.w) X.A (do rule "assign.swapped-stores";let items ←unpackItems (.ref s1.heap.objs.size) 3 none;assignInOrder [fun v=>bindName X.env z v,fun v=>bindName X.env y v,fun v=>bindName X.env x v] items.reverse;pure Flow.next) _ _ _
 refine wpAny_bind (wpAny_rule (wpAny_bind (unpackItems_tuple (items:=#[u1,u2,u3]) (I.ok.hd hc) (IsTup.new s1.heap _) fun h' hx'=>?_)))
 have I3:=I2.kept (h':=h') (t':=s1.toks) fun b o e=>hx' b o (Nat.ne_of_lt (Heap.lt_size e)) e
 show wpAny _ _ (assignInOrder [fun v=>bindName X.env z v,fun v=>bindName X.env y v,fun v=>bindName X.env x v] [u3,u2,u1]>>=fun _=>pure Flow.next) _ _ _
 refine wpAny_bind (assignInOrder_cons (wpAny_bindName (store_ok I3 hN hk (.inl hz) rz (fun s2 I4=>?_) (.inr hz))))
 refine assignInOrder_cons (wpAny_bindName (store_ok I4 hN hj (.inl hy) rw' (fun s3 I5=>?_) (.inr hy)))
 refine assignInOrder_cons (wpAny_bindName (store_ok I5 hN hi (.inl hx) rv (fun s4 I6=>assignInOrder_nil (wpAny_pure ?_)) (.inr hx)))
 have e:((σ.set k (some w3)).set j (some w)).set i (some v)=((σ.set i (some v)).set j (some w)).set k (some w3):=by
  rw[List.set_comm _ _ (Ne.symm hjk),List.set_comm _ _ (Ne.symm hik),List.set_comm _ _ (Ne.symm hij)]
 rw[e] at I6
 exact⟨_,H1,I6,q1⟩
end L2
namespace L3
open PySem PySem.Spec L2
def BP(i j k:Nat)(fa:aa->DM (List D)):aa->DM Fl:=fun δ=>fa δ>>=fun l=>match l with
 |[v,w,z]=>pure (.nx (((δ.set i (some v)).set j (some w)).set k (some z)))
 |_=>stuck
@[simp] theorem JR(i j k:Nat)(fa:aa->DM (List D))(δ:aa):BP i j k fa δ=fa δ>>=fun l=>match l with
 |[v,w,z]=>Pure.pure (.nx (((δ.set i (some v)).set j (some w)).set k (some z)))
 |_=>stuck:=id rfl
theorem CP {X:Cx}{E:XK}{i j k:Nat}{x y z:Str}{a b c:Expr}{fa:aa->DM (List D)}{px py pz pt pos:Pos}{kt k2 pt2} (hc:X.calm=true) (hN:X.N.Nodup) (hi:X.N[i]?=some x) (hj:X.N[j]?=some y) (hk:X.N[k]?=some z) (hij:i≠j) (hik:i≠k) (hjk:j≠k)
  (hx:X.env.scope.names.lookup x=some .local) (hy:X.env.scope.names.lookup y=some .local) (hz:X.env.scope.names.lookup z=some .local) (ha:DA X E [a,b,c] fa)
  (hw:swappedStores [.Tuple [.Name x px,.Name y py,.Name z pz] kt pt] (.Tuple [a,b,c] k2 pt2) X.env=pure (some [x,y,z]))
  (hs:swapsWithSole [.Tuple [.Name x px,.Name y py,.Name z pz] kt pt] (.Tuple [a,b,c] k2 pt2) pos.line X.env=pure false:=by rfl) :
  DS X E (.Assign [.Tuple [.Name x px,.Name y py,.Name z pz] kt pt] (.Tuple [a,b,c] k2 pt2) pos) (BP i j k fa):=⟨PS.mono (Dt hc hN hi hj hk hij hik hjk hx hy hz ha.h.h hw hs) fun D σ H h=>by
 obtain⟨ρ,δ,M,ev,j,g1⟩:=h
 refine⟨ρ,δ,M,ev,j,aR.bind g1 fun ρ1 H1 M1 v d e1 j1 c1 g2=>?_⟩
 cases c1 with
 |nil=>obtain⟨r,e,_⟩:=g2;cases e
 | cons c1 c2=>cases c2 with
   |nil=>obtain⟨r,e,_⟩:=g2;cases e
   | cons c2 c3=>cases c3 with
     |nil=>obtain⟨r,e,_⟩:=g2;cases e
     |cons c3 c4=>cases c4 with
       |nil=>exact⟨_,_,_,rfl,aR.pure (a:=.nx _) g2 ρ1 H1 _ .refl j1 ((((ev.mono e1).set c1).set c2).set c3)⟩
       |cons _ _=>obtain⟨r,e,_⟩:=g2;cases e⟩
end L3
namespace N10
def pl(a b:Nat):Nat×Nat:=(a / Nat.gcd a b,b / Nat.gcd a b)
def Jc(l:List Nat):Nat:=l.foldl Nat.gcd 0
def lst(l:List Nat):List Nat:=l.map (·/ Jc l)
def S:Nat->(Nat->Nat)->Nat
 |0,_=>0
 |n+1,f=>S n f+f n
def up(f:Nat->Nat)(x v:Nat):Nat->Nat:=fun i=>if i=x then v else f i
theorem Ec(f:Nat->Nat)(x v:Nat):up f x v x=v:=by simp[up]
theorem Cj{f:Nat->Nat}{x v i:Nat}(h:i≠x):up f x v i=f i:=by simp[up,h]
theorem pU {f g:Nat->Nat}:∀ {n:Nat},(∀ i,i<n->f i=g i)->S n f=S n g
 |0,_=>rfl
 |n+1,h=>by
   show S n f+f n=S n g+g n
   rw[pU fun i hi=>h i (by omega),h n (by omega)]
theorem Eg {f:Nat->Nat}{x v:Nat}:∀ {n:Nat},x<n->S n (up f x v) + f x=S n f + v
 | n + 1,h=>by
   show S n (up f x v)+up f x v n+f x=S n f+f n+v
   by_cases e:x=n
   ·subst e
    rw[Ec,pU (g:=f) fun i hi=>Cj (by omega)];omega
   ·have:=Eg (f:=f) (v:=v) (n:=n) (x:=x) (by omega)
    rw[Cj (Ne.symm e)];omega
theorem rP {f:Nat->Nat}:∀ {n:Nat},(∀ i,i<n->f i=0)->S n f=0
 |0,_=>rfl
 |n+1,h=>by
   show S n f+f n=0
   rw[rP fun i hi=>h i (by omega),h n (by omega)]
theorem Bp (f g:Nat->Nat):∀ n:Nat,S n (fun i=>f i + g i)=S n f + S n g
 |0=>rfl
 |n+1=>by
   show S n _+(f n+g n)=(S n f+f n)+(S n g+g n)
   rw[Bp f g n];omega
theorem oA (f:Nat->Nat):∀ n:Nat,((List.range n).map f).sum=S n f
 |0=>rfl
 |n+1=>by
   rw[List.range_succ,List.map_append,List.sum_append,oA f n]
   show S n f+(f n+0)=S n f+f n
   omega
structure G where
 A:Nat->Nat->Nat
 L:Nat->Nat
 W:Nat->Nat
end N10
namespace L3
open PySem PySem.Spec L2
def nM(R:List (List Nat)):D:=.tup (R.map nT)
def ga(l:List Nat)(i:Nat):Nat:=l.getD i 0
def gr(R:List (List Nat))(i:Nat):List Nat:=R.getD i []
theorem Ey{l:List Nat}{i:Nat}(h:i<l.length):ga l i∈l:=by
 unfold ga
 rw[List.getD_eq_getElem?_getD,List.getElem?_eq_getElem h]
 exact List.getElem_mem _
theorem gr_mem{R:List (List Nat)}{i:Nat}(h:i<R.length):gr R i∈R:=by
 unfold gr
 rw[List.getD_eq_getElem?_getD,List.getElem?_eq_getElem h]
 exact List.getElem_mem _
theorem ym{l:List Nat}{i:Nat}(h:l.length≤i):ga l i=0:=by
 unfold ga
 rw[List.getD_eq_getElem?_getD,List.getElem?_eq_none h];rfl
theorem Bw{l:List Nat}{i:Nat}(h:i<l.length):ga l i=l[i]:=by
 unfold ga
 rw[List.getD_eq_getElem?_getD,List.getElem?_eq_getElem h];rfl
theorem FZ{a b:Nat}(h:nD a=nD b):a=b:=by
 have:=D.int.inj h
 omega
theorem Gd{a b:List Nat}(h:nT a=nT b):a=b:=(List.map_inj_right fun _ _=>FZ).mp (D.tup.inj h)
theorem Gb{a b:List (List Nat)}(h:nM a=nM b):a=b:=(List.map_inj_right fun _ _=>Gd).mp (D.tup.inj h)
theorem yG {α:Type}{ft:aa->DM Bool}{fe:aa->DM D}{rest:aa} (enc:α->D) (p:α->Bool) (e:α->D):∀ (as:List α) (x:Option D) (l:List D),l.length + as.length≤1000000->(∀ a∈as,ft (some (enc a)::rest)=Pure.pure (p a))->(∀ a∈as,p a=true->fe (some (enc a)::rest)=Pure.pure (e a))->
  bf (gN 0) ft (bO fe) (as.map enc) (x::rest) l=Pure.pure (jw x (as.map enc)::rest,l++(as.filter p).map e)
 |[],x,l,_,_,_=>by simp[bf,jw]
 | d::ds,x,l,hl,h1,h2=>by
   have b:=h1 d (List.mem_cons_self ..)
   have hl':l.length+(ds.length+1)≤1000000:=by simpa using hl
   have lt:l.length<sizeLine:=by show l.length<2^24;omega
   have ih:=fun l' hl'=>yG (rest:=rest) enc p e ds (some (enc d)) l' hl' (fun x hx=>h1 x (List.mem_cons_of_mem _ hx)) (fun x hx=>h2 x (List.mem_cons_of_mem _ hx))
   by_cases hp:p d=true
   ·have c:=h2 d (List.mem_cons_self ..) hp
    have q:=ih (l++[e d]) (by simp;omega)
    simp[bf,b,hp,bO,c,lt,q,jw]
   ·have q:=ih l (by omega)
    simp[bf,b,hp,q,jw]
theorem aP{α:Type}{ft:aa->DM Bool}{fe:aa->DM D}{x:Option D}{rest:aa}{as:List α}(enc:α->D)(p:α->Bool)(e:α->D)(hl:as.length≤1000000)(h1:∀a∈as,ft (some (enc a)::rest)=Pure.pure (p a))(h2:∀a∈as,p a=true->fe (some (enc a)::rest)=Pure.pure (e a)) :
  bY (bf (gN 0) ft (bO fe) (as.map enc) (x::rest) [])=Pure.pure (jw x (as.map enc)::rest,(as.filter p).map e):=by
 rw[yG enc p e as x [] (by simpa using hl) h1 h2];simp
theorem oN{α:Type}{fe:aa->DM D}{x:Option D}{rest:aa}{as:List α}(enc:α->D)(e:α->D)(hl:as.length≤1000000)(h2:∀a∈as,fe (some (enc a)::rest)=Pure.pure (e a)) :
  bY (bf (gN 0) (fun _=>Pure.pure true) (bO fe) (as.map enc) (x::rest) [])=Pure.pure (jw x (as.map enc)::rest,as.map e):=by
 rw[aP enc (fun _=>true) e hl (fun _ _=>rfl) fun a ha _=>h2 a ha,List.filter_eq_self.mpr (fun _ _=>rfl)]
theorem yI {α β:Type}{fe:aa->DM D}{rest:aa} (enc:α->D) (enc':β->D) (e:α->β->D):∀ (as:List α) (bs:List β) (x y:Option D) (l:List D),l.length + as.length≤1000000->(∀ a∈as,∀ b∈bs,fe (some (enc a)::some (enc' b)::rest)=Pure.pure (e a b))->
  bf (gT 2 (dN (gN 0) (dN (gN 1) lW))) (fun _=>Pure.pure true) (bO fe) (pairs (as.map enc) (bs.map enc')) (x::y::rest) l=Pure.pure (lX x y (as.map enc) (bs.map enc')++rest,l++List.zipWith e as bs)
 |[],bs,x,y,l,_,_=>by simp[bf,lX,pairs]
 |a::as,[],x,y,l,_,_=>by simp[bf,lX,pairs]
 |a::as,b::bs,x,y,l,hl,h=>by
   have c:=h a (by simp) b (by simp)
   have hl':l.length+(as.length+1)≤1000000:=by simpa using hl
   have lt:l.length<sizeLine:=by show l.length<2^24;omega
   have ih:=yI (rest:=rest) enc enc' e as bs (some (enc a)) (some (enc' b)) (l++[e a b]) (by simp;omega) (fun a ha b hb=>h a (by simp[ha]) b (by simp[hb]))
   simp[bf,pairs,bO,c,lt,ih,lX]
theorem Eo{α β:Type}{fe:aa->DM D}{x y:Option D}{rest:aa}{as:List α}{bs:List β}(enc:α->D)(enc':β->D)(e:α->β->D)(hl:as.length≤1000000)(h:∀a∈as,∀b∈bs,fe (some (enc a)::some (enc' b)::rest)=Pure.pure (e a b)) :
  bY (bf (gT 2 (dN (gN 0) (dN (gN 1) lW))) (fun _=>Pure.pure true) (bO fe) (pairs (as.map enc) (bs.map enc')) (x::y::rest) [])=Pure.pure (lX x y (as.map enc) (bs.map enc')++rest,List.zipWith e as bs):=by
 rw[yI enc enc' e as bs x y [] (by simpa using hl) h];simp
theorem uh{a b:Nat}(h0:0<b)(h:b<2^1000):(rd (jq (nD a) (nD b)):DM D)=Pure.pure (nD (a / b)):=by
 unfold nD
 rw[za (uP (by omega) (by simpa using h)),Int.natCast_ediv]
theorem GR{a b:Nat}(h:b<2^64):(rd (lq (nD a) (nD b)):DM D)=Pure.pure (nD (a*b)):=by
 unfold nD
 rw[mD (lY (by simpa using h)),Int.natCast_mul]
theorem yW(a b:Nat):(rd (jf (nD a) (nD b)):DM D)=Pure.pure (nD (a+b)):=by
 unfold nD
 rw[BX,Int.natCast_add]
theorem vf(a:Nat):(rd (jf (nD a) (.int 1)):DM D)=Pure.pure (nD (a+1)):=yW a 1
theorem Gx(a:Nat):(rd (jf (.int 1) (nD a)):DM D)=Pure.pure (nD (a+1)):=by
 rw[Nat.add_comm];exact yW 1 a
theorem GX{a b:Nat}(h:b≤a):(rd (wZ (nD a) (nD b)):DM D)=Pure.pure (nD (a-b)):=by
 unfold nD
 rw[Ib]
 have:(a:Int)-(b:Int)=((a-b:Nat):Int):=by omega
 rw[this]
theorem cU(a b:Nat):(rd (dM (nD a) (nD b)):DM D)=Pure.pure (.bl (decide (a=b))):=by
 unfold nD
 rw[HQ]
 have:decide ((a:Int)=(b:Int))=decide (a=b):=by rw[Bool.eq_iff_iff,decide_eq_true_eq,decide_eq_true_eq];omega
 rw[this]
theorem iV(a b:Nat):(rd (lu (nD a) (nD b)):DM D)=Pure.pure (.bl (!decide (a=b))):=by
 unfold nD
 rw[H9]
 have:decide ((a:Int)=(b:Int))=decide (a=b):=by rw[Bool.eq_iff_iff,decide_eq_true_eq,decide_eq_true_eq];omega
 rw[this]
theorem zg(a b:Nat):(rd (BJ (nD a) (nD b)):DM D)=Pure.pure (.bl (decide (a<b))):=by
 unfold nD
 rw[Jr]
 have:decide ((a:Int)<(b:Int))=decide (a<b):=by rw[Bool.eq_iff_iff];simp
 rw[this]
theorem lE(a b:Nat):(rd (o8 (nD a) (nD b)):DM D)=Pure.pure (.bl (decide (a≤b))):=by
 unfold nD
 rw[Jq]
 have:decide ((a:Int)≤(b:Int))=decide (a≤b):=by rw[Bool.eq_iff_iff];simp
 rw[this]
theorem zb(a b:Nat):(rd (mU (nD a) (nD b)):DM D)=Pure.pure (.bl (decide (b<a))):=by
 unfold nD
 rw[Jp]
 have:decide ((b:Int)<(a:Int))=decide (b<a):=by rw[Bool.eq_iff_iff];simp
 rw[this]
theorem GD(a b:Nat):(rd (Bx (nD a) (nD b)):DM D)=Pure.pure (.bl (decide (b≤a))):=by
 unfold nD
 rw[Jo]
 have:decide ((b:Int)≤(a:Int))=decide (b≤a):=by rw[Bool.eq_iff_iff];simp
 rw[this]
theorem vh{a b:Nat}(h:0<b):(rd (gH (nD a) (nD b)):DM D)=Pure.pure (nD (a%b)):=zj h
theorem Dv(a b:Bool):(rd (dM (.bl a) (.bl b)):DM D)=Pure.pure (.bl (a==b)):=cu fun M=>by
 simp[dM,L3.eqB,eqP,toPy,PyData.canLay0,PyData.depth,PyData.eqv]
theorem gQ(l:List Nat):(rd (gG [nT l]):DM D)=Pure.pure (nD l.length):=by simp[nT,nD]
theorem cB(R:List (List Nat)):(rd (gG [nM R]):DM D)=Pure.pure (nD R.length):=by simp[nM,nD]
theorem HW(l:List D):(rd (fK [.tup l,.ty "tuple"]):DM D)=Pure.pure (.bl true):=mC (t := "tuple") (fun _=>rfl) (by decide)
theorem zc(R:List (List Nat)):(rd (fK [nM R,.ty "tuple"]):DM D)=Pure.pure (.bl true):=HW _
theorem iW{n:Nat}(h:n<2^62):jz [nD n]=some (.fix ((List.range n).map nD)):=pK h
theorem yZ(R:List (List Nat)):Br (nM R)=some (.fix (R.map nT)):=rfl
theorem ug(l:List D):(rd (Bq (.lst l)):DM Itn)=Pure.pure (.fix l):=rfl
theorem Dw(l:List Nat)(R:List (List Nat)):uz [nT l,nM R]=some (.fix (pairs (l.map nD) (R.map nT))):=rfl
theorem Ca{l:List Nat}{i:Nat}(h:i<l.length):(rd (fu (nT l) (nD i)):DM D)=Pure.pure (nD (ga l i)):=HY (by unfold ga;rw[List.getD_eq_getElem?_getD,List.getElem?_eq_getElem h];rfl)
theorem HX{R:List (List Nat)}{i:Nat}(h:i<R.length):(rd (fu (nM R) (nD i)):DM D)=Pure.pure (nT (gr R i)):=BZ (by unfold gr;rw[List.getElem?_map,List.getD_eq_getElem?_getD,List.getElem?_eq_getElem h];rfl)
theorem zf{R:List (List Nat)}(h:0<R.length):(rd (fu (nM R) (.int 0)):DM D)=Pure.pure (nT (gr R 0)):=HX h
end L3
namespace LS
open PySem PySem.Spec PyProof.Rows PyProof
end LS
namespace L2
open PySem PySem.Spec PyProof.Rows
variable{X:Cx}{pos:Pos}
end L2
namespace L3
open PySem PySem.Spec PyProof.Rows L2
variable{X:Cx}{E:XK}{pos:Pos}
def gL(n:Nat)(fs:List D->aa->DM aa):D->aa->DM aa
 |.lst l,δ=>if l.length=n then fs l δ else stuck
 |_,_=>stuck
@[simp] theorem Ka(n:Nat)(fs:List D->aa->DM aa)(l:List D)(δ:aa):gL n fs (.lst l) δ=if l.length=n then fs l δ else stuck:=id rfl
end L3
namespace L3
open PySem PySem.Spec L2
abbrev Mg:=Str->Option Value
abbrev Fn:=List D->DM D
abbrev Nn(mg:Mg)(x:Str):Prop:=mg x=none
abbrev Gi(mg:Mg)(x:Str)(i:Int)(t:Tok):Prop:=mg x=some (.int i t)
abbrev Gc(mg:Mg)(x:Str)(C:Addr):Prop:=mg x=some (.ref C)
abbrev Rm(k:Nat)(A:Around)(q:Str)(st:Stmt)(s:Shared)(f:Addr)(cdv:Value):Prop:=Room k (A.deeper (PyProof.Rows.envOfC q (defScope st) s.heap.objs.size f cdv))
abbrev Ds(P:Program)(w:World)(K:PySem.W.Frag)(mg:Mg)(base:Heap)(N:List Str)(q:Str)(st:Stmt)(f:Addr)(cdv:Value)(A:Around)(outer:List Env)(s:Shared)(H:Hp)(E:XK)(b:aa->DM Fl):Prop:=
 DSs (aH P w K mg base N q (defScope st) f cdv A outer s H E) E (defBody st) b
theorem wQ{N P:List Str}{sc:Scope}(a:sc.kind=.function)(b:sc.isCoroutine=false)(c:sc.isGenerator=false)(p:N.take P.length=P)(d:(decide N.Nodup&&(decide (∀x∈P,sc.names.lookup x=some .local∨sc.names.lookup x=some .cell)&&decide (∀y∈sc.names,y.2≠.free)))=true):FnScope N P sc:=by
 simp only[Bool.and_eq_true,decide_eq_true_eq] at d
 exact⟨a,b,c,d.1,p,d.2.1,d.2.2⟩
theorem u1{n:Nat}(h:n+64<cLine):n+1<cLine:=by omega
end L3
namespace L3
open PySem L2
end L3
namespace L3
open PySem PySem.Spec L2 LB
end L3
namespace L3
open PySem L2
end L3
namespace L3
open PySem PySem.Spec L2 LA LB
open PyProof.Rows hiding St
end L3
namespace L3
open PySem PySem.Spec L2 LA LB LS
open PyProof.Rows hiding St
end L3
namespace L2
open PySem PySem.Spec PyProof.Rows LS LA LB
end L2
namespace L3
open PySem PySem.Spec L2 LA LB
end L3
namespace L3
open PySem PySem.Spec L2
open PyProof.Rows hiding St
theorem wy {prog:Program}{w:World}{A:Around}{R:Result->Shared->Prop}{s:Shared}{elt:Expr}{gens:List Comprehension}{scope:Scope}{pos:Pos}{depth:Nat}{g:Comprehension}{it acc:Value}{env:Env}
  (hturn:compTurn (.ListComp elt gens scope pos) depth it acc env=turnOf g (jm elt acc env) (.compLoop (.ListComp elt gens scope pos) depth it acc env) it env)
  (turn:wpAny (model prog w) A (pyNext it) (fun r s₁=>∃v,r=some v∧wpAny (model prog w) A (letOwnedTupleGo g.target it v) (fun _ s₂=>wpAny (model prog w) A (assign g.target env v) (fun _ s₃=>
    wpAny (model prog w) A (mJ g.ifs env) (fun ok s₄=>ok=true∧wpAny (model prog w) A (eval elt env) (fun _ _=>False) (fun x s'=>wpAny (model prog w) A (noteFrame x env) (fun _ s''=>R (.error x) s'') (fun _ _=>False) s') s₄) (fun _ _=>False) s₃) (fun _ _=>False) s₂) (fun _ _=>False) s₁) (fun _ _=>False) s) :
  codeAny (model prog w) A (.compLoop (.ListComp elt gens scope pos) depth it acc env) R s:=by
 refine codeAny_loop rfl (fun n s'=>s'=s) (fun n s' hI=>?_) 0 rfl
 subst hI
 show wpAny _ A ((compTurn (.ListComp elt gens scope pos) depth it acc env).onRaise (fun x=>do noteFrame x env;theTreesLotGoes x)) _ _ s'
 refine wpAny_noted ?_
 rw[hturn]
 unfold turnOf
 refine wpAny_bind (wpAny_standAt (wpAny_bind (wpAny_mono turn (fun r s₁ h₁=>?_) fun _ _ h'=>h'.elim)))
 obtain⟨v,rfl,h₁⟩:=h₁
 refine wpAny_bind (wpAny_mono h₁ (fun _ s₂ h₂=>wpAny_bind (wpAny_mono h₂ (fun _ s₃ h₃=>wpAny_bind (wpAny_mono h₃ (fun ok s₄ h₄=>?_) fun _ _ h'=>h'.elim)) fun _ _ h'=>h'.elim)) fun _ _ h'=>h'.elim)
 obtain⟨rfl,h₄⟩:=h₄
 rw[if_pos rfl]
 unfold jm
 exact wpAny_bind (wpAny_bind (wpAny_mono h₄ (fun _ _ z=>z.elim) fun x s5 h5=>wpAny_mono h5 (fun _ _ z=>z) fun _ _ z=>z.elim))
def fj(fg:D->aa->DM aa)(ft:aa->DM Bool)(fe:aa->DM D)(it:Itn)(δ:aa):DM Unit:=fun M=>match it.next 0 M with
 |some (some d)=>(bY (fg d δ)>>=fun δ1=>bY (ft δ1)>>=fun b=>if b then fe δ1>>=fun _=>pure () else pure ()) M
 |_=>some (.ok (),M)
def fW(o:Out)(fg:D->aa->DM aa)(ft:aa->DM Bool)(fe:aa->DM D)(it:Itn)(δ:aa):DM D:=fun M=>match fj fg ft fe it δ M with
 |some (.exc c,M')=>some (.exc c,M')
 |_=>(bY (cz fg ft (bO fe) it δ [])>>=fun p=>o.run p.2) M
theorem Er{Y:Cx}{elt:Expr}{fe:aa->DM D}(h:∀Eh,DE (Y.withX (RX Y Eh)) Eh elt fe)(hx:Y.xe=fun _ _=>False):DE Y E0 elt fe:=⟨by
 intro pins s σ H Q I q
 refine wpAny_mono ((h E0).h pins s σ H Q I.toX q) (fun v s1 h1=>?_) fun e s1 h1=>?_
 ·obtain⟨v',H',J,r,q'⟩:=h1
  exact⟨v',H',J.ofX,r,q'⟩
 ·obtain⟨_,_,_,_,_,_,_,_,_,_,_,_,_,_,_,_,_,_,z⟩:=h1
  exact z.elim⟩
theorem lz{α β:Type}{m:DM α}{k:α->DM β}{M M':Mo}{c:Str}(h:(bY m>>=k) M=some (.exc c,M')):∃a M1,m M=some (.ok a,M1)∧k a M1=some (.exc c,M'):=by
 have h:DM.bind (bY m) k M=some (.exc c,M'):=h
 unfold DM.bind at h
 split at h
 ·cases h
 ·rename_i em
  obtain⟨_,_,_,z⟩:=fB em
  cases z
 ·rename_i a M1 em
  obtain⟨a',M2,e1,z⟩:=fB em
  cases z
  exact⟨a,M1,e1,h⟩
theorem vZ {fg:D->aa->DM aa}{ft:aa->DM Bool}{fe:aa->DM D}{it:Itn}{δ:aa}{M M':Mo}{c:Str} (h:fj fg ft fe it δ M=some (.exc c,M')) :
  ∃d δ1 M1 M2,it.next 0 M=some (some d)∧fg d δ M=some (.ok δ1,M1)∧ft δ1 M1=some (.ok true,M2)∧fe δ1 M2=some (.exc c,M'):=by
 unfold fj at h
 split at h
 ·rename_i d hd
  obtain⟨δ1,M1,e1,h⟩:=lz h
  obtain⟨b,M2,e2,h⟩:=lz h
  cases b with
  |false=>cases h
  |true=>
    refine⟨d,δ1,M1,M2,hd,e1,e2,?_⟩
    have h:DM.bind (fe δ1) _ M2=some (.exc c,M'):=h
    unfold DM.bind at h
    split at h
    ·cases h
    ·rename_i em;cases h;exact em
    ·cases h
 ·cases h
theorem CT{mg:Str->Option Value}{ρ1 ρ4:Rh}{H2 H4:Hp}{acc:Addr}{M:Mo}(hf:H2 acc=none)(hn:acc∉ρ1)(x:ExtB acc (ρ1.hold acc) (upd H2 acc (.lst [])) ρ4 H4)(j:J mg ρ4 M H4) :
  Ext ρ1 H2 ⟨ρ4.st,ρ1.vo⟩ H4∧J mg ⟨ρ4.st,ρ1.vo⟩ M H4:=by
 have hv:ρ4.vo=acc::ρ1.vo:=x.vo
 have nw:∀a,a∈ρ4.st->a∉ρ1.st->H2 a=none:=fun a h n=>by
  have:=x.new a h n
  by_cases z:a=acc
  ·rw[z,upd_same] at this;cases this
  ·rw[upd_ne z] at this;exact this
 have kp:∀a o,H2 a=some o->a∉ρ1.st->H4 a=some o:=fun a o h n=>x.keep a o (by rw[upd_ne (ne_of_none h hf)];exact h) n (ne_of_none h hf)
 exact⟨⟨x.pre,rfl,nw,kp⟩,J.done (ρ:=ρ1) j hv⟩
section
variable{P:Program}{w:World}{K:PySem.W.Frag}{mg:Str->Option Value}{base:Heap}{N:List Str}{qual:Str}{scope0:Scope}{f:Addr}{cd:Value}{A:Around}{outer:List Env}{s₀:Shared}{H₀:Hp}{E:XK}
theorem Aa {scope:Scope}{cl:List (Str×Addr)}{own:List Str}{js:List Nat}{fr:List Str}{elt t0 i0:Expr}{f0:List Expr}{pos:Pos}{fi:aa->DM Itn}{fg:D->aa->DM aa}{ft:aa->DM Bool}{fe:aa->DM D}
  (o:Out) (hc:(aH P w K mg base N qual scope0 f cd A outer s₀ H₀ E).calm=true) (T:CompG (aH P w K mg base N qual scope0 f cd A outer s₀ H₀ E) scope cl own js fr) (hi:DI (aH P w K mg base N qual scope0 f cd A outer s₀ H₀ E) E t0 i0 fi)
  (hg:∀pins m fp C s₂ H₂,DG ((aH P w K mg base N qual scope0 f cd A outer s₀ H₀ E).aP pins scope (cellsFrom m scope.names cl) (own++fr) fp C s₂ H₂) E0 t0 fg) (ht:∀pins m fp C s₂ H₂,DTs ((aH P w K mg base N qual scope0 f cd A outer s₀ H₀ E).aP pins scope (cellsFrom m scope.names cl) (own++fr) fp C s₂ H₂) E0 f0 ft)
  (he:∀pins m fp C s₂ H₂ Eh,DE (((aH P w K mg base N qual scope0 f cd A outer s₀ H₀ E).aP pins scope (cellsFrom m scope.names cl) (own++fr) fp C s₂ H₂).withX (RX ((aH P w K mg base N qual scope0 f cd A outer s₀ H₀ E).aP pins scope (cellsFrom m scope.names cl) (own++fr) fp C s₂ H₂) Eh)) Eh elt fe)
  (hs:∀y,foldedSetIterable i0 (aH P w K mg base N qual scope0 f cd A outer s₀ H₀ E).env y=pure y:=by intro _;rfl) :
  DE (aH P w K mg base N qual scope0 f cd A outer s₀ H₀ E) E (.ListComp elt [⟨t0,i0,f0,0⟩] scope pos) (fun δ=>fi δ>>=fun it=>fW o fg ft fe it (aW own.length js δ)):=⟨by
 generalize hX:aH P w K mg base N qual scope0 f cd A outer s₀ H₀ E=X at *
 intro pins s σ H Q I h
 obtain⟨ρ,δ,M,ev,j,r,e,p⟩:=h
 by_cases hx:∃it M1 c M',fi δ M=some (.ok it,M1)∧fj fg ft fe it (aW own.length js δ) M1=some (.exc c,M')
 rotate_left
 ·refine (gA (fe:=fe) o hc T hi hg ht (fun pins m fp C s₂ H₂=>Er (fun Eh=>he pins m fp C s₂ H₂ Eh) rfl) hs).h pins s σ H Q I ⟨ρ,δ,M,ev,j,r,?_,p⟩
  have e:DM.bind _ _ M=some r:=e
  show DM.bind _ _ M=some r
  unfold DM.bind at e ⊢
  split at e
  ·cases e
  ·exact e
  ·rename_i it M1 em
   show (bY (cz fg ft (bO fe) it (aW own.length js δ) [])>>=fun p=>o.run p.2) M1=some r
   have e:fW o fg ft fe it (aW own.length js δ) M1=some r:=e
   unfold fW at e
   split at e
   ·rename_i c M' ex
    exact absurd ⟨it,M1,c,M',em,ex⟩ hx
   ·exact e
 obtain⟨itn,M1,c,M',efi,ex⟩:=hx
 have hr:r=(.exc c,M'):=by
  have e:DM.bind _ _ M=some r:=e
  unfold DM.bind at e
  rw[efi] at e
  have e:fW o fg ft fe itn (aW own.length js δ) M1=some r:=e
  unfold fW at e
  rw[ex] at e
  cases e
  rfl
 subst hr
 have p:∀ρ' H' C,Ext ρ H ρ' H'->J X.mg ρ' M' H'->X.mg c=some (.ref C)->E (.ref C) none H':=p
 obtain⟨d,δ1,Ma,Mb,hd,e1,e2,e3⟩:=vZ ex
 rw[eval_ListComp]
 refine wpAny_comprehension_free (cl:=cl) (use:=none) rfl hs T.clos T.kind T.names ?_
 refine thn (hi.h pins s σ H (fun Jt H1=>∃ρ1,Ext ρ H ρ1 H1∧J X.mg ρ1 M1 H1∧ItOk X.mg ρ1 H1 Jt itn) I
  ⟨ρ,δ,M,ev,j,_,efi,fun ρ1 H1 Jt a1 a2 a3=>⟨ρ1,a1,a2,a3⟩⟩) fun v s1 h1=>thn h1 fun itv s2 h2=>?_
 obtain⟨it,fp,tn,Jt,H2,rfl,I2,Tn,st2,f2,ρ1,x1,j1,iok⟩:=h2
 unfold newList
 refine wpAny_newObj_type (lw ?_)
 have hlt:∀b∈fp,b<s2.heap.objs.size:=fun b hb=>by
  obtain⟨o,e,_⟩:=Tn.obj _ _ st2 b hb
  exact Heap.lt_size e
 dsimp only
 generalize hP:s2.heap.push { cls:=.type "list",dict:=none,data:=.seq ([]:List Value).toArray }=hp1
 have hCs:hp1.objs.size=s2.heap.objs.size+1:=by rw[←hP,Heap.size_push]
 have hCe:hp1.objs.size+1=(hp1.push { cls:=.type "dict",data:=.dict #[] }).objs.size:=by rw[Heap.size_push]
 have hC:s2.heap.objs.size≤hp1.objs.size:=by omega
 have hne:hp1.objs.size≠s2.heap.objs.size:=by omega
 have old1:∀b o,s2.heap.get? b=some o->hp1.get? b=some o:=fun b o e=>by rw[←hP];exact Heap.get?_push_of_some _ e
 have old:∀b o,s2.heap.get? b=some o->(pushCells (hp1.push { cls:=.type "dict",data:=.dict #[] }) scope.names).get? b=some o:=fun b o e=>pushCells_keeps _ _ _ _ (Heap.get?_push_of_some _ (old1 b o e))
 have new:∃n,(pushCells (hp1.push { cls:=.type "dict",data:=.dict #[] }) scope.names).get? s2.heap.objs.size=some { cls:=.type "list",data:=.seq #[] n }:=⟨_,pushCells_keeps _ _ _ _ (Heap.get?_push_of_some _ (by rw[←hP];exact Heap.get?_push_size _ rfl))⟩
 have ns:(pushCells (hp1.push { cls:=.type "dict",data:=.dict #[] }) scope.names).Ns hp1.objs.size fun _=>none:=(Heap.Ns.new hp1 (.type "dict")).keeps (pushCells_keeps _ _)
 have hfree:H2 s2.heap.objs.size=none:=I2.hok.fresh (Nat.le_refl _)
 have IC:=kj (t':=s2.toks) T I2 f2 hlt old (Nat.le_refl _) hC hne hCe (Nat.le_trans hC (Nat.le_succ _)) (Nat.lt_succ_self _) (Nat.lt_succ_of_le hC) rfl new ns
 have OK:=IC.ok
 have fok:∀H',(∀b∈fp,H' b=none)->∀b∈fp,FpOk (X.aP pins scope (cellsFrom (hp1.objs.size+1) scope.names cl) (own++fr) fp hp1.objs.size s2 H2) [] H' b:=fun H' hn b hb=>by
  obtain⟨_,g2,g3,g4,g5,g6⟩:=f2 b hb
  refine⟨hn b hb,Nat.ne_of_lt (Nat.lt_of_lt_of_le (hlt b hb) hC),fun hm=>?_,.inl hb,(OK.exf b hb).2,fun p hp=>g6 p (by simpa using hp)⟩
  rcases List.mem_cons.mp (I2.stkSub _ hm) with z | z
  ·exact g2 z
  ·exact g3 z
 have fp1:∀b∈fp,upd H2 s2.heap.objs.size (.lst []) b=none:=fun b hb=>by rw[upd_ne (Nat.ne_of_lt (hlt b hb))];exact (f2 b hb).1
 have jb:=j1.begin hfree
 have nf:=j1.fresh hfree
 have evc:=(lV (ev.mono x1) own.length js).kp (eO (o:=.lst []) hfree)
 have tn0:tn 0 (pushCells (hp1.push { cls:=.type "dict",data:=.dict #[] }) scope.names):=Tn.keep _ _ _ st2 (fun b _ o e=>old b o e)
 have loop:codeAny (model X.prog X.w) X.A (.compLoop (.ListComp elt [⟨t0,i0,f0,0⟩] scope pos) 0 (.ref it) (.ref s2.heap.objs.size) (compEnvC scope (cellsFrom (hp1.objs.size + 1) scope.names cl) hp1.objs.size X.env))
   (compPost (model X.prog X.w) X.A X.xe none (EP X pins σ Q) (.ref s2.heap.objs.size) hp1.objs.size) { s2 with heap:=pushCells (hp1.push { cls:=.type "dict",data:=.dict #[] }) scope.names,toks:=s2.toks }:=by
  refine wy (w6 ..) ?_
  obtain⟨go,yl⟩:=iok.item 0 _ _ M1 d (eO hfree) jb hd
  refine wpAny_mono (Tn.item (X.aP pins scope (cellsFrom (hp1.objs.size+1) scope.names cl) (own++fr) fp hp1.objs.size s2 H2) rfl rfl rfl hc 0 [] _ _ _ (fun _ _=>False) IC (fok _ fp1) tn0 go) (fun r s1 h1=>?_) fun _ _ z=>z
  obtain⟨u,rfl,h1⟩:=h1
  refine⟨u,rfl,wpAny_mono h1 (fun _ s3 h3=>?_) fun _ _ z=>z⟩
  obtain⟨xv,H5,I5,r5,y5,tn5,fr5⟩:=h3
  obtain⟨x5,j5,c5⟩:=yl xv H5 y5
  refine wpAny_mono ((hg ..).h _ s3 _ H5 xv u (fun σ6 H6=>∃ρ6,Ext _ H5 ρ6 H6∧J X.mg ρ6 Ma H6∧Ev X.mg ρ6 H6 σ6 δ1) I5 r5 ⟨_,_,M1,d,evc.mono x5,j5,c5,_,e1,fun ρ6 H6 σ6 a1 a2 a3=>⟨ρ6,a1,a2,a3⟩⟩) (fun _ s4 h4=>?_) fun _ _ z=>z
  obtain⟨σ6,H6,I6,ρ6,x6,j6,ev6⟩:=h4
  refine wpAny_mono ((ht ..).h _ s4 σ6 H6 (fun b' H7=>b'=true∧∃ρ7,Ext ρ6 H6 ρ7 H7∧J X.mg ρ7 Mb H7) I6 ⟨ρ6,δ1,Ma,ev6,j6,_,e2,fun ρ7 H7 b' a1 a2 a3=>⟨a3,ρ7,a1,a2⟩⟩) (fun ok s5 h5=>?_) fun _ _ z=>z
  obtain⟨H7,I7,rfl,ρ7,x7,j7⟩:=h5
  refine⟨rfl,?_⟩
  have nacc:s2.heap.objs.size∉(ρ1.hold s2.heap.objs.size).st:=fun z=>nf (.inl z)
  have ha:upd H2 s2.heap.objs.size (.lst []) s2.heap.objs.size=some (.lst []):=upd_same
  have na6:s2.heap.objs.size∉ρ6.st:=fun z=>by
   have h5:=x5.keep _ _ ha nacc
   have:=x6.new _ z nacc
   rw[h5] at this;cases this
  have ha5:=x5.keep _ _ ha nacc
  have ha6:=x6.keep _ _ ha5 nacc
  have na7:s2.heap.objs.size∉ρ7.st:=fun z=>by
   have:=x7.new _ z na6
   rw[ha6] at this;cases this
  have ha7:=x7.keep _ _ ha6 na6
  have xb:=((x5.b nacc).trans (x6.b na6)).trans (x7.b na7)
  refine wpAny_mono ((he pins _ fp _ s2 H2 E).h _ s5 σ6 H7 (fun _ _=>False) I7.toX ⟨ρ7,δ1,Mb,ev6.mono x7,j7,_,e3,fun ρ' H' C' a1 a2 a3=>?_⟩) (fun v s6 h6=>?_) fun e6 s6 h6=>?_
  ·have na':s2.heap.objs.size∉ρ'.st:=fun z=>by
    have:=a1.new _ z na7
    rw[ha7] at this;cases this
   obtain⟨xo,jo⟩:=CT hfree nf (xb.trans (a1.b na')) a2
   exact p _ H' C' (x1.trans xo) jo a3
  ·obtain⟨_,_,_,_,z⟩:=h6
   exact z.elim
  ·obtain⟨pins4,σ4,H4,s4',I4,hf⟩:=h6
   subst hX
   exact vX I2 f2 hC I4 hf
 show codeAny _ _ (.compStart _ 0 (.ref it) (.ref s2.heap.objs.size) (compEnvC scope (cellsFrom (hp1.objs.size+1) scope.names cl) hp1.objs.size X.env)) _ _
 exact lL rfl rfl loop (Tn.self X.A 0 _ _ _ tn0 loop)⟩
end
end L3
namespace L3
open PySem PySem.Spec PyProof.Rows L2
abbrev TB(K:PySem.W.Frag)(x:Str):Prop:=PySem.W.nsIn K mainGlobals x=some none
def TD(K:PySem.W.Frag)(x:Str)(st:Stmt):Prop:=∀{h:Heap}{mg:Mg},K.In h->h.Ns mainGlobals mg->DefAt K mg x st
section
variable{K:PySem.W.Frag}{x:Str}{st:Stmt}{f:Addr}{oc:Value}{od an:Option Addr}{osl:Array (Option Value)}{kV doc pm cdv ct:Value}
theorem Ij(a:PySem.W.nsIn K mainGlobals x=some (some (.ref f)))(l:K.lookup f=some ⟨oc,od,.func (PySem.W.fnOf x x (defArgs st) (defBody st) (defScope st) .none kV doc pm an cdv ct),osl⟩)(c:PySem.W.codeIn K cdv x=true)(k:PySem.W.keepIn K (.ref f)=true):TD K x st:=
 fun X G=>Ac X G a l c k
end
section
variable{P:Program}{w:World}{K:PySem.W.Frag}{mg:Mg}{base:Heap}{k:Nat}{C:Addr}{c x qual:Str}{N ps:List Str}{st:Stmt}{fb:aa->DM Fl}{is:List Int}
theorem okd(T:DefAt K mg x st)(S:FnScope N ps (defScope st))(hbody:∀{f cdv A outer s H E},Rm k A x st s f cdv->Ds P w K mg base N x st f cdv A outer s H E fb)
  (hb:∀(kV doc pm:Value) (an:Option Addr) (cdv ct:Value) (us:List Value),us.length=ps.length->bindArgs (PySem.W.fnOf x x (defArgs st) (defBody st) (defScope st) .none kV doc pm an cdv ct) ⟨us,[]⟩=pure (ps.zip us):=by intro _ _ _ _ _ _ us hl;first | (obtain⟨_,rfl⟩:=lg hl;rfl) | (obtain⟨_,_,rfl⟩:=qm hl;rfl) | (obtain⟨_,_,_,rfl⟩:=Al hl;rfl) | (obtain⟨_,_,_,_,rfl⟩:=Fy hl;rfl)) :
  DefD P w K mg base (k+1) x ps (aF ps.length N.length fb):=L3.DefAt.okD T S hb fun _ _ _ _ _ _ _=>hbody
theorem okn{F:Fn}(fb:Nat->aa->DM Fl)(T:DefAt K mg x st)(S:FnScope N ps (defScope st))(hf:∀ds M r,F ds M=some r->∃n,aF ps.length N.length (fb n) ds M=some r)(hbody:∀n {f cdv A outer s H E},Rm k A x st s f cdv->Ds P w K mg base N x st f cdv A outer s H E (fb n))
  (hb:∀(kV doc pm:Value) (an:Option Addr) (cdv ct:Value) (us:List Value),us.length=ps.length->bindArgs (PySem.W.fnOf x x (defArgs st) (defBody st) (defScope st) .none kV doc pm an cdv ct) ⟨us,[]⟩=pure (ps.zip us):=by intro _ _ _ _ _ _ us hl;first | (obtain⟨_,rfl⟩:=lg hl;rfl) | (obtain⟨_,_,rfl⟩:=qm hl;rfl) | (obtain⟨_,_,_,rfl⟩:=Al hl;rfl) | (obtain⟨_,_,_,_,rfl⟩:=Fy hl;rfl)) :
  DefD P w K mg base (k+1) x ps F:=L3.DefAt.okN T S hb hf fun n _ _ _ _ _ _ _=>hbody n
theorem yP(T:MethAt K C x qual st)(m:mg c=some (.ref C))(cl:L2.Cls K C)(S:FnScope N ps (defScope st))(hbody:∀{f cdv A outer s H E},Rm k A qual st s f cdv->Ds P w K mg base N qual st f cdv A outer s H E fb):MethD P w K mg base (k+1) c x qual st ps (aF ps.length N.length fb):=L3.MethAt.okD T m cl S fun _ _ _ _ _ _ _=>hbody
end
end L3
namespace LA
open PySem PySem.W PySem.Calls LS PyProof.Rows LB
end LA
namespace L2
open PySem PySem.Spec PyProof.Rows LS LA LB
end L2
namespace L3
open PySem PySem.Spec L2 LA LB LS
open PyProof.Rows hiding St
end L3
namespace L3
open PySem PySem.Spec L2
open PyProof.Rows hiding St
end L3
namespace L3
open PySem PySem.Spec L2 LB
end L3
namespace L3
open PySem PySem.Spec L2
open PyProof.Rows hiding St
section
variable{X:Cx}{E:XK}{a:Expr}{fa:aa->DM D}{fs:aa->DM (List D)}{pos p1 p2 p3 p4:Pos}
def nb(b:Bool):Int:=if b=true then 1 else 0
end
end L3
namespace L2
open PySem PySem.Spec PyProof.Rows LS
end L2
namespace L3
open PySem PySem.Spec L2
end L3
namespace L3
open PySem PySem.Spec L2 PyProof.Rows
end L3
namespace L3
open PySem PySem.Spec L2
open PyProof.Rows hiding St
structure ThD(P:Program)(w:World)(K:PySem.W.Frag)(mg:Str->Option Value)(base:Heap)(k:Nat)(outer:List Env)(s:Shared)(H:Hp)(ρ:Rh)(g:Addr)(th:DM D):Prop where
 fn:∀(s2:Shared) (H2:Hp),Un (frs outer) [] H H2 s.heap s2.heap->HOk P w H2 s2.heap->PySem.W.FnAt g s2.heap
 run:∀(A2:Around) (outer2:List Env) (s2:Shared) (H2:Hp) (ρ2:Rh) (M2:Mo) (Q:VK) (E:XK),Room k A2->Env0 P w K mg base A2 outer2 s2 H2->Un (frs outer) [] H H2 s.heap s2.heap->Ext ρ H ρ2 H2->J mg ρ2 M2 H2->
  Go mg E (Cv mg) Q ρ2 H2 th M2->codeAny (model P w) A2 (.call (.ref g) ⟨[],[]⟩) (CR (bw P w) outer2 P w H2 s2 Q E) s2
def Ed(i:Nat)(g:Addr)(ρ₀:Rh)(H₀:Hp):L2.St->Rh->Hp->Prop:=fun σ ρ H=>σ[i]?=some (some (.ref g))∧Ext ρ₀ H₀ ρ H
abbrev AT:=L2.St->Rh->Hp->Prop
def tA(An:AT)(mg:Str->Option Value)(E:XK)(f:aa->DM D):TE:=fun σ H Q=>∃ρ δ M,An σ ρ H∧Ev mg ρ H σ δ∧J mg ρ M H∧Go mg E (Cv mg) Q ρ H (f δ) M
def Cg(An:AT)(mg:Str->Option Value)(E:XK)(f:aa->DM Fl):TS:=fun D σ H=>∃ρ δ M,An σ ρ H∧Ev mg ρ H σ δ∧J mg ρ M H∧aR mg E D ρ H (f δ) M
structure AE(X:Cx)(E:XK)(An:AT)(e:Expr)(f:aa->DM D):Prop where
 h:PE X e (tA An X.mg E f)
structure AS(X:Cx)(E:XK)(An:AT)(st:Stmt)(f:aa->DM Fl):Prop where
 h:PS X st (Cg An X.mg E f)
structure ASs(X:Cx)(E:XK)(An:AT)(st:List Stmt)(f:aa->DM Fl):Prop where
 h:PSs X st (Cg An X.mg E f)
section
variable{X:Cx}{E:XK}{An:AT}{e:Expr}{fe:aa->DM D}{pos:Pos}{st:Stmt}{rest:List Stmt}{f g:aa->DM Fl}
theorem zL {k i:Nat}{y:Str}{p:Pos}{g:Addr}{th:DM D}{ρ₀:Rh} (hr:Room k X.A) (hx:Passes (bw X.prog X.w) X E) (hT:ThD X.prog X.w X.K X.mg X.base k X.outer X.s₀ X.H₀ ρ₀ g th) (hex:X.ex=[]:=by rfl) (hN:X.N[i]?=some y:=by rfl)
  (hv:Vis X.env.scope y:=by exact Or.inl rfl) (hd:(y==("__debug__":Str))=false:=by decide) (hcd:(y==("__classdict__":Str))=false:=by decide) :
  AE X E (Ed i g ρ₀ X.H₀) (.Call (.Name y p) [] [] pos) (fun _=>th):=⟨by
 intro pins s σ H Q I h
 obtain⟨ρ,δ,M,⟨hσ,ex⟩,ev,j,go⟩:=h
 refine wpAny_Call_Name_kw ?_
 refine thn (pe_var hN hv hd hcd pins s σ H (fun v H1=>v=.ref g∧H1=H) I ⟨.ref g,hσ,rfl,rfl⟩) fun u s1 h1=>?_
 obtain⟨v,H1,I1,r,rfl,rfl⟩:=h1
 obtain rfl:u=Value.ref g:=r
 have un:Un (frs X.outer) [] X.H₀ H1 X.s₀.heap s1.heap:=by have:=I1.base;rw[hex] at this;exact this
 refine PySem.W.callWith_F0 (hT.fn s1 H1 un I1.hok) ?_
 refine wpAny_call (codeAny_mono (hT.run X.A X.stack s1 H1 ρ M Q E hr I1.env0 un ex j go) fun r s' hq=>?_)
 cases r with
 |error e=>exact hx pins σ H1 s1 e s' I1 hq
 |ok fl=>
   cases fl with
   |ret u=>exact I1.after hq
   |next=>exact False.elim hq
   |brk=>exact False.elim hq
   |cont=>exact False.elim hq⟩
theorem Cr(he:AE X E An e fe)(hs:swapsWith e none pos.line X.env=pure false:=by rfl):AS X E An (.Expr e pos) (fun δ=>fe δ>>=fun _=>pure (.nx δ)):=⟨PS.mono (ps_expr he.h hs) fun D σ H h=>by
 obtain⟨ρ,δ,M,an,ev,j,g1⟩:=h
 exact⟨ρ,δ,M,an,ev,j,g1.bind fun ρ1 H1 M1 v d e1 j1 c1 g2=>g2.pure ρ1 H1 σ .refl j1 (ev.mono e1)⟩⟩
theorem Cu(h:AS X E An st f):ASs X E An [st] f:=⟨pss_one h.h⟩
theorem zN(h1:AS X E An st f)(h2:DSs X E rest g):ASs X E An (st::rest) (jH f g):=⟨PSs.mono (pss_cons h1.h h2.h) fun D σ H h=>by
 obtain⟨ρ,δ,M,an,ev,j,g1⟩:=h
 refine⟨ρ,δ,M,an,ev,j,g1.seq (fun δ' ρ1 H1 M1 σ1 e1 j1 ev1 g2=>⟨ρ1,δ',M1,ev1,j1,g2⟩) (fun δ' ρ1 H1 M1 σ1 e1 j1 ev1 g2=>?_) (fun δ' ρ1 H1 M1 σ1 e1 j1 ev1 g2=>?_) (fun d ρ1 H1 M1 v e1 j1 c1 g2=>?_)⟩
 ·exact aR.pure g2 ρ1 H1 σ1 .refl j1 ev1
 ·exact aR.pure g2 ρ1 H1 σ1 .refl j1 ev1
 ·exact aR.pure g2 ρ1 H1 v .refl j1 c1⟩
end
theorem Ek {X:Cx}{E:XK}{An:AT} (nl:Nat) {ns:List Str}{fb:aa->DM Fl}{fh:Str->aa->DM Fl}{fy:Addr->Str->aa->DM Fl}{x n:Str}{F:Addr}{i:Nat}{body suite:List Stmt}{b₀:Stmt}{np p1 pos:Pos} (T:XTab X.K X.mg ns F) (hcalm:X.calm=true) (hcells:X.env.cells=[]) (hex:X.ex=[])
  (hst:X.stack=X.env::X.outer) (hfr:X.env.frame=some X.env.locals) (hN:X.N.Nodup) (hi:X.N[i]?=some n) (hk:X.env.kindOf n=some .local) (hm:X.mg x=some (.ref F))
  (hb:∀pins Eh,ASs (X.tryC pins Eh) Eh An body fb) (hs:∀c C y oe,c∈ns->X.mg c=some (.ref C)->oe.cls=.ref C->XAt X.K C->DSs (X.sui y oe) E0 (b₀::suite) (fy y c))
  (hy:∀y c M r,fh c ((List.replicate nl none).set i (some (.exn 0))) M=some r->fy y c ((List.replicate nl none).set i (some (.exn y))) M=some r)
  (hnl:X.N.length=nl:=by rfl) (hg:Gl X x:=by rfl) (hd:(x==("__debug__":Str))=false:=by decide) :
  AS X E An (.Try body [.ExceptHandler (some (.Name x np)) (some n) (b₀::suite) p1] [] [] pos) (Hh ns nl i fb fh):=⟨by
 subst hnl
 intro pins s σ H D I h
 obtain⟨ρ,δ,M,an,ev,j,g1⟩:=h
 let Eh:XK:=fun C' o H'=>∃c C ρ' M' r,c∈ns∧C'=.ref C∧o=none∧X.mg c=some (.ref C)∧J X.mg ρ' M' H'∧(bY (fh c ((List.replicate X.N.length none).set i (some (.exn 0))))>>=Gh i) M'=some r∧lN X.mg ρ' H' D E r
 have key:Cg An X.mg Eh fb D σ H:=by
  obtain⟨r,e,p⟩:=g1
  unfold Hh at e
  split at e
  ·rename_i c M' em
   split at e
   rotate_left
   ·cases e
   rename_i hc
   refine⟨ρ,δ,M,an,ev,j,_,em,fun ρ' H' C x' j' m=>⟨c,C,ρ',M',r,List.contains_iff_mem.mp hc,rfl,rfl,m,j',e,p.mono x'⟩⟩
  ·rename_i em
   refine⟨ρ,δ,M,an,ev,j,r,e,?_⟩
   obtain⟨r,M'⟩:=r
   cases r with
   |ok a=>cases a<;>exact p
   |exc c=>exact absurd e (em c M')
 refine L2.Gs (Eh:=Eh) (tb:=Cg An X.mg Eh fb) (th:=fun y oe D σ H=>∃c C,c∈ns∧X.mg c=some (.ref C)∧oe.cls=.ref C∧XAt X.K C∧tS X.mg E0 (fy y c) D σ H) hcalm hcells hex hst hfr hN hi hk hm (fun pins=>(hb pins Eh).h) (fun y oe pins' s' σ' H' D' I' q=>?_) hg hd pins s σ H D I ⟨key,?_⟩
 ·obtain⟨c,C,hc,m,ho,xa,q⟩:=q
  exact (hs c C y oe hc m ho xa).h pins' s' σ' H' D' I' q
 ·rintro y oe C' H1 hcl _ ⟨c,C,ρ',M',r,hc,rfl,_,m,j',e,p⟩
  obtain⟨C2,xc,xa,ca⟩:=T.cls c hc
  have:C2=C:=by have:=xc.at_;rw[m] at this;cases this;rfl
  subst this
  refine⟨⟨C2,rfl,ca⟩,c,C2,hc,m,hcl,xa,ρ',(List.replicate X.N.length none).set i (some (.exn y)),M',?_,j',?_⟩
  ·refine ⟨by simp,fun k d q=>?_⟩
   by_cases hk':k=i
   ·subst hk'
    have hl:k<(List.replicate X.N.length (none:Option L3.D)).length:=by
     have:=(List.getElem?_eq_some_iff.mp q).1
     rw[List.length_set] at this;exact this
    rw[List.getElem?_set_self hl] at q
    cases q
    refine⟨.ref y,List.getElem?_set_self ?_,.exn y⟩
    rw[List.length_replicate] at hl ⊢;exact hl
   ·rw[List.getElem?_set_ne (fun z=>hk' z.symm),List.getElem?_replicate] at q
    split at q<;>cases q
  ·have e:DM.bind _ _ M'=some r:=e
   unfold DM.bind at e
   split at e
   ·cases e
   ·rename_i em
    obtain⟨_,_,_,z⟩:=fB em
    cases z
   ·rename_i a M'' em0
    obtain⟨a',M3,em,z⟩:=fB em0
    cases z
    refine⟨_,hy y c _ _ em,?_⟩
    cases a with
    |nx δ2=>cases e;exact fun ρ2 H2 σ2 a1 a2 a3=>p ρ2 H2 (σ2.set i none) a1 a2 a3.forget
    |bk δ2=>cases e;exact fun ρ2 H2 σ2 a1 a2 a3=>p ρ2 H2 (σ2.set i none) a1 a2 a3.forget
    |ct δ2=>cases e;exact fun ρ2 H2 σ2 a1 a2 a3=>p ρ2 H2 (σ2.set i none) a1 a2 a3.forget
    |rt d=>cases e;exact fun ρ2 H2 v a1 a2 a3=>p ρ2 H2 v a1 a2 a3⟩
structure HrdD(P:Program)(w:World)(K:PySem.W.Frag)(mg:Str->Option Value)(base:Heap)(k:Nat)(x:Str)(Fh:DM D->DM D):Prop where
 ex:∃f,mg x=some (.ref f)∧PySem.W.keepIn K (.ref f)=true∧∀(A:Around) (outer:List Env) (s:Shared) (H:Hp) (ρ:Rh) (M:Mo) (g:Addr) (th:DM D) (Q:VK) (E:XK),Room (k+1) A->Env0 P w K mg base A outer s H->
  ThD P w K mg base k outer s H ρ g th->J mg ρ M H->Go mg E (Cv mg) Q ρ H (Fh th) M->codeAny (model P w) A (.call (.ref f) ⟨[.ref g],[]⟩) (CR (bw P w) outer P w H s Q E) s
def Bu(n:Nat)(fb:DM D->aa->DM Fl)(th:DM D):DM D:=fb th (List.replicate n none)>>=fun r=>match r with
 |.nx _=>pure .non
 |.rt d=>pure d
 |_=>stuck
section
variable{P:Program}{w:World}{K:PySem.W.Frag}{mg:Str->Option Value}{base:Heap}{k:Nat}{x y:Str}{N:List Str}{st:Stmt}
theorem JM {fb:DM D->aa->DM Fl} (T:DefAt K mg x st) (S:FnScope N [y] (defScope st))
  (hbody:∀{f cdv A outer s H E ρ g th},Room k (A.deeper (envOfC x (defScope st) s.heap.objs.size f cdv))->ThD P w K mg base k outer s H ρ g th->
    ASs (aH P w K mg base N x (defScope st) f cdv A outer s H E) E (Ed 0 g ρ H) (defBody st) (fb th))
  (hb:∀(kV doc pm:Value) (an:Option Addr) (cdv ct u:Value),bindArgs (PySem.W.fnOf x x (defArgs st) (defBody st) (defScope st) .none kV doc pm an cdv ct) ⟨[u],[]⟩=pure ([y].zip [u]):=by intros;rfl):HrdD P w K mg base k x (Bu N.length fb):=by
 obtain⟨f,fd,F,m⟩:=T.ex
 refine⟨f,m,F.kp,fun A outer s H ρ M g th Q E hr e0 hth j go=>?_⟩
 have hN:1≤N.length:=by have:=congrArg List.length S.pre;rw[List.length_take] at this;simp at this;omega
 refine Dy (us:=[.ref g]) (vs:=[.ref g]) F S e0 hr (fun _ _ _ _ _ _=>hb _ _ _ _ _ _ _) rfl (.cons rfl .nil) fun cdv hr'=>⟨_,(hbody hr' hth).h,ρ,List.replicate N.length none,M,⟨rfl,.refl⟩,⟨?_,fun i d q=>?_⟩,j,?_⟩
 ·unfold L2.start;simp;omega
 ·rw[List.getElem?_replicate] at q
  split at q<;>cases q
 ·obtain⟨r,e,p⟩:=go
  have e:DM.bind _ _ M=some r:=e
  unfold DM.bind at e
  split at e
  ·cases e
  ·rename_i c M' em
   cases e
   exact⟨_,em,p⟩
  ·rename_i a M' em
   refine⟨_,em,?_⟩
   cases a with
   |nx δ'=>cases e;exact fun ρ1 H1 b x j c=>p ρ1 H1 .non x j .non
   |rt d=>cases e;exact fun ρ1 H1 b x j c=>p ρ1 H1 b x j c
   |bk δ'=>cases e
   |ct δ'=>cases e
end
structure LamC(X:Cx)(scope:Scope)(cl:List (Str×Addr))(js:List Nat)(fr:List Str):Prop where
 ok:LamOk scope cl fr
 clos:closureFor scope X.env=pure cl
 sub:∀y c,cl.lookup y=some c->X.env.cells.lookup y=some c
 len:js.length=fr.length
 fre:∀(k j:Nat) (y:Str),js[k]?=some j->fr[k]?=some y->X.N[j]?=some y∧X.env.scope.names.lookup y=some .cell∧∃c,cl.lookup y=some c
theorem zT {X:Cx}{scope:Scope}{cl:List (Str×Addr)}{js:List Nat}{fr:List Str}{pins:List (Addr×Obj)}{σ:L2.St}{H H2:Hp}{s s2:Shared} (T:LamC X scope cl js fr) (hfn:∀ x,X.fn x=true) (I:Inv X pins σ H s) (un:Un (frs X.stack) [] H H2 s.heap s2.heap):CellsAt cl fr (pick js σ) H2 s2.heap:=by
 have out:∀y c,cl.lookup y=some c->c∉frs X.stack:=fun y c e hm=>by
  rcases List.mem_cons.mp (I.stkSub c hm) with z | z
  ·exact I.cne y c (T.sub _ _ e) z
  ·obtain⟨_,o,ho,_⟩:=I.ok.funs.mem z
   exact absurd (Heap.lt_size ho) (Nat.not_lt.mpr (I.ok.cab y c (hfn y) (T.sub _ _ e)))
 have kp:∀y c v,cl.lookup y=some c->s.heap.IsCell c v->s2.heap.IsCell c v:=fun y c v e ⟨o,ho,hd⟩=>⟨o,un.keep c o ho (I.freeC y c (T.sub _ _ e)) (out y c e) (by simp),hd⟩
 refine⟨fun x y c h1 h2=>I.ok.inj x y c (T.sub _ _ h1) (T.sub _ _ h2),fun x c e=>?_,fun x c e=>?_,fun i x v h1 h2=>?_,?_⟩
 ·obtain⟨v,z⟩:=I.cell x c (T.sub _ _ e)
  exact⟨v,kp x c v e z⟩
 ·obtain⟨v,o,ho,_⟩:=I.cell x c (T.sub _ _ e)
  exact un.free c o ho (I.freeC x c (T.sub _ _ e)) (by simp)
 ·unfold pick at h2
  rw[List.getElem?_map] at h2
  cases hj:js[i]? with
  |none=>rw[hj] at h2;cases h2
  | some j=>
    rw[hj] at h2
    have h2s:(σ[j]?).getD none=some v:=Option.some.inj h2
    have h2':σ[j]?=some (some v):=by
     cases z:σ[j]? with
     |none=>rw[z] at h2s;cases h2s
     |some w=>rw[z] at h2s;exact congrArg some h2s
    obtain⟨g1,g2,c,g3⟩:=T.fre i j x hj h1
    obtain⟨mX,_,hl⟩:=I.loc
    obtain⟨u,r,q⟩:=hl j x v g1 h2' (.inr (.inl g2))
    refine⟨u,c,r,g3,kp x c _ g3 ?_⟩
    rcases q with ⟨q,_⟩ | ⟨_,c2,e2,z⟩
    ·have:X.env.scope.names.lookup x=some .local:=q
     rw[g2] at this;cases this
    ·rw[T.sub _ _ g3] at e2;cases e2
     exact z
 ·unfold pick;rw[List.length_map];exact T.len
theorem sU {X:Cx}{E:XK}{k j c:Nat}{P:Addr}{fx:Str}{Fh:DM D->DM D}{tb:aa->DM D}{params:Arguments}{body:Expr}{scope:Scope}{cl:List (Str×Addr)}{p lpos pos:Pos} (js:List Nat) (fr:List Str) (Hd:HrdD X.prog X.w X.K X.mg X.base (k + 1) fx Fh) (hr:Room j X.A) (hx:Passes (bw X.prog X.w) X E)
  (T:TabD X.mg X.base c P) (hcd:X.env.code=.ref c) (hP:∃ps,X.H₀ P=some (.tbl ps))
  (hbody:∀{qual g cd A outer s H E},Room k (A.deeper (PySem.W.envX qual scope s.heap.objs.size g cd cl))->DE (jP X.prog X.w X.K X.mg X.base fr qual scope g cd cl A outer s H E) E body tb) (L:LamC X scope cl js fr) (hjk:k+2≤j:=by decide) (hfn:∀x,X.fn x=true:=by intros;rfl)
  (hdef:defaultsOf params X.env=([],[]):=by rfl) (hbind:∀qual pm cv ctv,bindArgs (PySem.W.kla_fn "<lambda>" qual params body scope cl pm cv ctv) ⟨[],[]⟩=pure []:=by intros;rfl) (hg:Gl X fx:=by rfl) (hdb:(fx==("__debug__":Str))=false:=by decide) :
  DE X E (.Call (.Name fx p) [.Lambda params body scope lpos] [] pos) (fun δ=>Fh (tb (bz js δ))):=⟨by
 obtain⟨f,hm,hkp,run⟩:=Hd.ex
 intro pins s σ H Q I h
 obtain⟨ρ,δ,M,ev,jj,go⟩:=h
 refine wpAny_Call_Name_kw (ld_glob I hg hm ?_ hdb)
 obtain⟨ps0,hP0⟩:=hP
 obtain⟨more,hPt⟩:=I.base.tbls P ps0 hP0
 have pl:PE X (.Lambda params body scope lpos) (Hc P params body scope cl):=Gp hcd T.hd T.ne T.bl L.clos hdef
 refine PySem.W.callWith_K (h₀:=X.base) I.ok.mod.kin hkp (thn (Gj pl pa_nil rfl pos pins s σ H (fun vs H1=>∃g,vs=[.ref g]∧H g=none∧Same H H1∧lM H1 g params body scope cl) I ⟨⟨_,hPt⟩,fun g H1 a b c=>⟨g,rfl,a,b,c⟩⟩) fun us s1 h1=>?_) (aX rfl) rfl
 obtain⟨vs,H1,I1,r,g,rfl,hgn,S,La⟩:=h1
 refine⟨I1.kIn,?_⟩
 obtain⟨u,rfl,ru⟩:∃u,us=[u]∧RelV (.ref g) u:=by
  cases r with
  |cons r1 r2=>cases r2;exact⟨_,rfl,r1⟩
 obtain rfl:u=Value.ref g:=ru
 have x1:Ext ρ H ρ H1:=.same S
 have go1:Go X.mg E (Cv X.mg) Q ρ H1 (Fh (tb (bz js δ))) M:=let ⟨r,e,p⟩:=go;⟨r,e,p.mono x1⟩
 have th:ThD X.prog X.w X.K X.mg X.base (k+1) X.stack s1 H1 ρ g (tb (bz js δ)):=by
  refine⟨fun s2 H2 un ok=>?_,fun A2 outer2 s2 H2 ρ2 M2 Q2 E2 hr2 e2 un ex2 j2 uT=>?_⟩
  ·obtain⟨qual,pm,cv,ctv,hgl,_⟩:=La
   exact⟨_,_,_,_,(ok g _ (un.frzs g _ _ hgl)).1⟩
  ·refine DK L.ok e2 hr2 (La.mono fun b o e=>un.frzs b o _ e) (zT L hfn I1 un) hbind fun qual cd hr3=>⟨_,(hbody hr3).h,ρ2,bz js δ,M2,?_,j2,uT⟩
   have:=lV ((ev.mono x1).mono ex2) 0 js
   show Ev X.mg ρ2 H2 (pick js σ) (bz js δ)
   simpa[aW] using this
 refine wpAny_call (codeAny_mono (run X.A X.stack s1 H1 ρ M g _ Q E (hr.mono hjk) I1.env0 th (jj.same S) go1) fun r s' hq=>?_)
 cases r with
 |error e=>exact hx pins σ H1 s1 e s' I1 hq
 |ok fl=>
   cases fl with
   |ret u=>exact I1.after hq
   |next=>exact False.elim hq
   |brk=>exact False.elim hq
   |cont=>exact False.elim hq⟩
open PySem PySem.Spec L2
open PyProof.Rows hiding St
theorem Ja {P:Program}{w:World}{K:PySem.W.Frag}{mg:Str->Option Value}{base:Heap}{k:Nat}{x:Str}{N ps:List Str}{st:Stmt}{fb:aa->DM Fl}{f c:Addr}{fd:FuncData}{ts:List (Addr×Addr)} (F:Fun K x x st f fd) (S:FnScope N ps (defScope st)) (hc:fd.code=.ref c)
  (hbody:∀(A:Around) (outer:List Env) (s:Shared) (H:Hp) (E:XK),(∀q∈ts,H q.2=some (.tbl #[]))->Room k (A.deeper (envOfC x (defScope st) s.heap.objs.size f (.ref c)))->
    DSs (aH P w K mg base N x (defScope st) f (.ref c) A outer s H E) E (defBody st) fb):FnOk P w K mg base (bw P w) (k+1) f fd ps (fun vs H Q E=>vz mg (aF ps.length N.length fb) vs H Q E∧∀q∈ts,H q.2=some (.tbl #[])):=by
 obtain⟨oc,od,kV,doc,pm,an,cdv,ct,osl,rfl,lk,cd⟩:=F.ex
 obtain rfl:cdv=.ref c:=hc
 refine fn_of lk cd S (fun vs H Q E h=>?_) fun A outer s H vs Q E hr h=>?_
 ·obtain⟨⟨ρ,M,ds,c,j,g⟩,_⟩:=h
  rw[c.len];exact (aR.aF g).1
 obtain⟨⟨ρ,M,ds,c,j,g⟩,ht⟩:=h
 exact⟨_,(hbody A outer s H E ht hr).h,ρ,_,M,jn c,j,(aR.aF g).2⟩
end L3
namespace N10
end N10
namespace K
open PySem L2 L3
theorem qX(l:List Str)(h:l.Nodup:=by decide):l.Nodup:=h
local macro_rules | `(tactic| trivial)=>`(tactic| refine⟨rfl,by decide +kernel,rfl,pO ?_,fun m_=>o5 rfl,by decide,rfl,Dh rfl,Di ?_,o4 ?_⟩<;>((repeat' apply And.intro)<;>first | exact True.intro | rfl | exact Or.inl rfl | exact Or.inr rfl | exact⟨_,rfl⟩))
def top(i:Nat):Stmt:=PySem.Challenge.pw_fadewalk_k06_steps_refused.main.body.getD i (.Pass ⟨0,0,0,0⟩)
abbrev fH:List Str:=["NoLot", "Unlike", "NoSteps", "NoPlace", "BadWalk", "NoNumber"]
abbrev Qd(k:Nat)(N:List Str)(x:Str)(st:Stmt)(Y:Program->World->PySem.W.Frag->Mg->Heap->Prop->Prop):={b:aa->DM Fl // ∀{P w K mg base f cdv A outer s H E},Y P w K mg base (Rm k A x st s f cdv->Ds P w K mg base N x st f cdv A outer s H E b)}
abbrev Qe(k:Nat)(N:List Str)(x:Str)(st:Stmt)(Y:(Nat->Str->List Str->Fn->Prop)->(Str->Prop)->Prop->Prop):=Qd k N x st fun P w K m o=>Y (DefD P w K m o) (Nn m)
abbrev Sc(N ps:List Str)(st:Stmt):=FnScope N ps (defScope st)
theorem bZ{N P:List Str}{sc:Scope}(a:sc.kind=.function:=by exact rfl)(b:sc.isCoroutine=false:=by exact rfl)(c:sc.isGenerator=false:=by exact rfl)(p:N.take P.length=P:=by exact rfl)(d:(decide N.Nodup&&(decide (∀x∈P,sc.names.lookup x=some .local∨sc.names.lookup x=some .cell)&&decide (∀y∈sc.names,y.2≠.free)))=true:=by decide +kernel):FnScope N P sc:=wQ a b c p d
theorem xR{X:Cx}{E:XK}{scope:Scope}{cl:List (Str×Addr)}{elt i0:Expr}{p0 pos:Pos}{fi:aa->DM Itn}{fe:aa->DM D}(x:Str)(js:List Nat)(fr:List Str)(hi:DI X E (.Name x p0) i0 fi)
  (he:∀{pins m fp C s₂ H₂},DE (X.aP pins scope (cellsFrom m scope.names cl) ([x]++fr) fp C s₂ H₂) E0 elt fe) (T:CompG X scope cl [x] js fr:=by trivial) (hc:X.calm=true:=by exact rfl)
  (nd:([x]++fr).Nodup:=by decide) (hl:∀m C Z,(compEnvC scope (cellsFrom m scope.names cl) C Z).scope.names.lookup x=some .local:=by intros;exact rfl)
  (hs:∀y,foldedSetIterable i0 X.env y=pure y:=by intro _;rfl) :
  DE X E (.ListComp elt [⟨.Name x p0,i0,[],0⟩] scope pos) (fun δ=>fi δ>>=fun it=>bY (cz (gN 0) (fun _=>pure true) (bO fe) it (aW [x].length js δ) [])>>=fun p=>Out.val.run p.2):=
 gA (own:=[x]) .val hc T hi (fun _ _ _ _ _ _=>aU (i:=0) nd rfl (Or.inl (hl ..)) (Or.inr (hl ..))) (fun _ _ _ _ _ _=>lU) (fun _ _ _ _ _ _=>he) hs
section
variable(N:Nat)(v0 v1 v2 v3 v4 v5 v6 v7 v8 v9 v10 v11 v12 v13 v14 v15 v16 v17 v18 v19:Fn)
abbrev jF:Stmt:=top 9
theorem uH:Sc ["thing"] ["thing"] jF:=bZ
@[simp] noncomputable def pG:Qe 0 ["thing"] "is_whole" jF fun D n Z=>n "bool"->n "int"->n "isinstance"->Z:=
 ⟨_,fun ya yb yc hr=>(aA (aJ (dI (aO bU yc (aj (ao 0) (aj (fX (T := "int") yb) ak))) (dJ (xV (aO bU yc (aj (ao 0) (aj (fX (T := "bool") ya) ak))))))))⟩
noncomputable def oJ:=(pG).1
abbrev cL:Stmt:=top 10
theorem eF:Sc ["one", "other"] ["one", "other"] cL:=bZ
@[simp] noncomputable def cI:Qe 0 ["one", "other"] "greatest_divider" cL fun _ _ Z=>Z:=
 ⟨_,fun  hr=>have nd:=eF.nd;(au (Ad N PassesOwn.leaving (bC (ao 1) (fun _=>rfl)) (aA (xX (i:=0) (j:=1) rfl nd rfl rfl (by decide) rfl rfl (aj (ao 1) (aj (aK dB (ao 0) (ao 1)) ak)) rfl)))
  (aA (aJ (ao 0))))⟩
noncomputable def bR(N:Nat):=(cI N).1
abbrev jG:Stmt:=top 11
theorem m7:Sc ["above", "below", "divider"] ["above", "below"] jG:=bZ
@[simp] noncomputable def pH:Qe 1 ["above", "below", "divider"] "plain_of" jG fun D n Z=>D 1 "greatest_divider" ["one", "other"] v0->n "abs"->Z:=
 ⟨_,fun ya yb hr=>have nd:=m7.nd;(au (aV (i:=2) nd rfl (Or.inl rfl) (aB ya hr aG (aj (aO xJ yb (aj (ao 0) ak)) (aj (ao 1) ak))))
  (aA (aJ (bK (aj (aK gJ (ao 0) (ao 2)) (aj (aK gJ (ao 1) (ao 2)) ak))))))⟩
noncomputable def oK:=(pH v0).1
abbrev fM:Stmt:=top 14
theorem qw:Sc ["thing", "many"] ["thing", "many"] fM:=bZ
@[simp] noncomputable def jT:Qe 1 ["thing", "many"] "are_weights" fM fun D n Z=>D 1 "is_whole" ["thing"] v0->n "all"->n "isinstance"->n "len"->n "tuple"->Z:=
 ⟨_,fun ya yb yc yd ye hr=>(au (bN (DW.dt (jl (b7 (bC (aO bU yc (aj (ao 0) (aj (fX (T := "tuple") ye) ak))) (fun _=>rfl))) (iQ (bF (dC hr.units) (aO call_lenD yd (aj (ao 0) ak)) (ao 1)))))
  (aA (aJ cV))
  bh)
  (aA (aJ (aO (kh hr.hd) yb (aj (xR "weight" [] [] (sV (ao 0)) (dI (aB ya hr tY (aj (ao 0) ak)) (dJ (gq tX (ao 0) aq)))) ak)))))⟩
noncomputable def jO:=(jT v0).1
abbrev jD:Stmt:=top 15
theorem uF:Sc ["thing", "many"] ["thing", "many"] jD:=bZ
@[simp] noncomputable def pD:Qe 2 ["thing", "many"] "are_rows" jD fun D n Z=>D 2 "are_weights" ["thing", "many"] v0->n "all"->n "isinstance"->n "len"->n "tuple"->Z:=
 ⟨_,fun ya yb yc yd ye hr=>(au (bN (DW.dt (jl (b7 (bC (aO bU yc (aj (ao 0) (aj (fX (T := "tuple") ye) ak))) (fun _=>rfl))) (iQ (bF (dC hr.units) (aO call_lenD yd (aj (ao 0) ak)) (ao 1)))))
  (aA (aJ cV))
  bh)
  (aA (aJ (aO (kh hr.hd) yb (aj (xR "row" [1] ["many"] (sV (ao 0)) (aB ya hr tY (aj (ao 0) (aj (ao 1) ak)))) ak)))))⟩
noncomputable def oH:=(pD v0).1
abbrev jE:Stmt:=top 16
theorem uG:Sc ["thing", "many"] ["thing", "many"] jE:=bZ
@[simp] noncomputable def pF:Qe 1 ["thing", "many"] "is_place" jE fun D n Z=>D 1 "is_whole" ["thing"] v0->Z:=
 ⟨_,fun ya hr=>(aA (aJ (dI (aB ya hr aG (aj (ao 0) ak)) (dJ (sJ dU ph aq (ao 0) (ao 1))))))⟩
noncomputable def ji:=(pF v0).1
abbrev nO:Stmt:=top 17
theorem zq:Sc ["thing"] ["thing"] nO:=bZ
@[simp] noncomputable def ue:Qd 2 ["thing"] "is_lot" nO fun P w K m o Z=>∀{t_MOST_PLACES},DefD P w K m o 2 "are_weights" ["thing", "many"] v0->Gi m "MOST_PLACES" 25 t_MOST_PLACES->Nn m "any"->Nn m "isinstance"->Nn m "len"->Nn m "tuple"->Z:=
 ⟨_,fun ya yb yc yd ye yf hr=>(au (bN (DW.dt (jl (b7 (bC (aO bU yd (aj (ao 0) (aj (fX (T := "tuple") yf) ak))) (fun _=>rfl))) (iQ (b7 (nq dU dU aq (aO call_lenD ye (aj (ao 0) ak)) (lO yb))))))
  (aA (aJ cV))
  bh)
  (aA (aJ (dI (aB ya hr aG (aj (ao 0) (aj (aO call_lenD ye (aj (ao 0) ak)) ak))) (dJ (aO (xK hr.hd) yc (aj (ao 0) ak)))))))⟩
noncomputable def su:=(ue v0).1
abbrev dZ:Stmt:=top 18
theorem nU:Sc ["thing"] ["thing"] dZ:=bZ
@[simp] noncomputable def iB:Qd 3 ["thing"] "refuse_no_lot" dZ fun P w K m o Z=>∀{F0 t_MOST_PLACES},DefD P w K m o 3 "is_lot" ["thing"] v0->XTab K m fH F0->Gi m "MOST_PLACES" 25 t_MOST_PLACES->Z:=
 ⟨_,fun ya yb yc hr=>(aA (bN (b7 (bC (aB ya hr aG (aj (ao 0) ak)) (fun _=>rfl)))
  (aA (gD yb (by decide) (sS aY (oR (lO yc)) aY)))
  bh))⟩
noncomputable def dH:=(iB v0).1
abbrev dY:Stmt:=top 21
theorem gY:Sc ["thing", "whole"] ["thing"] dY:=bZ
@[simp] noncomputable def iz:Qd 3 ["thing", "whole"] "can_be_walked" dY fun P w K m o Z=>∀{t_MOST_PLACES},DefD P w K m o 3 "are_rows" ["thing", "many"] v0->Gi m "MOST_PLACES" 25 t_MOST_PLACES->Nn m "all"->Nn m "isinstance"->Nn m "len"->Nn m "sum"->Nn m "tuple"->Z:=
 ⟨_,fun ya yb yc yd ye yf yg hr=>have nd:=gY.nd;(au (bN (DW.dt (jl (b7 (bC (aO bU yd (aj (ao 0) (aj (fX (T := "tuple") yg) ak))) (fun _=>rfl))) (jl (b7 (nq dU dU aq (aO call_lenD ye (aj (ao 0) ak)) (lO yb))) (iQ (b7 (bC (aB ya hr aG (aj (ao 0) (aj (aO call_lenD ye (aj (ao 0) ak)) ak))) (fun _=>rfl)))))))
  (aA (aJ cV))
  bh)
  (au (aV (i:=1) nd rfl (Or.inr rfl) (aO (dq hr.hd) yf (aj (bM cF (ao 0) aq) ak)))
  (aA (aJ (dI (gq tX (ao 1) aq) (dJ (aO (kh hr.hd) yc (aj (xR "row" [1] ["whole"] (sV (ao 0)) (gq (eQ hr.units) (aO (dq hr.hd) yf (aj (ao 0) ak)) (ao 1))) ak))))))))⟩
noncomputable def ig:=(iz v0).1
abbrev cT:Stmt:=top 22
theorem lK:Sc ["thing"] ["thing"] cT:=bZ
@[simp] noncomputable def fV:Qd 1 ["thing"] "refuse_no_steps" cT fun P w K m o Z=>∀{F0 t_MOST_STEPS},DefD P w K m o 1 "is_whole" ["thing"] v0->XTab K m fH F0->Gi m "MOST_STEPS" 100 t_MOST_STEPS->Z:=
 ⟨_,fun ya yb yc hr=>(aA (bN (DW.dt (jl (b7 (bC (aB ya hr aG (aj (ao 0) ak)) (fun _=>rfl))) (iQ (b7 (nq dU dU aq (ao 0) (lO yc))))))
  (aA (gD yb (by decide) (sO aY (oR (lO yc)))))
  bh))⟩
noncomputable def cQ:=(fV v0).1
abbrev cM:Stmt:=inClass (top 26) 1
theorem pM:Sc ["self"] ["self"] cM:=bZ
@[simp] noncomputable def iT:Qd 0 ["self"] "Walk.__len__" cM fun P w K m o Z=>∀{C_Walk},OCls K m "Walk" C_Walk ["rows", "whole"]->Nn m "len"->Z:=
 ⟨_,fun ya yb hr=>(aA (aJ (aO call_lenD yb (aj (kI ya (by decide) (ao 0)) ak))))⟩
noncomputable def iK:=(iT).1
abbrev cR:Stmt:=top 23
theorem lJ:Sc ["walk", "thing"] ["walk", "thing"] cR:=bZ
@[simp] noncomputable def fU:Qd 2 ["walk", "thing"] "refuse_no_place" cR fun P w K m o Z=>∀{F0},DefD P w K m o 2 "is_place" ["thing", "many"] v0->MethD P w K m o 1 "Walk" "__len__" "Walk.__len__" cM ["self"] v1->XTab K m fH F0->Nn m "len"->Z:=
 ⟨_,fun ya yb yc yd hr=>(aA (bN (b7 (bC (aB ya hr aG (aj (ao 1) (aj (aO (qM yb hr aG (fun _ _ _ _ _ _ us hl=>by obtain⟨_,rfl⟩:=lg hl;rfl)) yd (aj (ao 0) ak)) ak))) (fun _=>rfl)))
  (aA (gD yc (by decide) (sO aY (oR (aO (qM yb hr aG (fun _ _ _ _ _ _ us hl=>by obtain⟨_,rfl⟩:=lg hl;rfl)) yd (aj (ao 0) ak))))))
  bh))⟩
noncomputable def cP:=(fU v0 v1).1
abbrev nQ:Stmt:=top 24
theorem zu:Sc ["place", "many"] ["place", "many"] nQ:=bZ
@[simp] noncomputable def uf:Qe 0 ["place", "many"] "lot_at" nQ fun D n Z=>n "range"->n "tuple"->Z:=
 ⟨_,fun ya yb hr=>(aA (aJ (kJ (T := "tuple") cC yb (aj (xR "at" [0] ["place"] (bV rfl ya (aj (ao 1) ak)) (Hq (bF (eQ hr.units) (ao 0) (ao 1)) aq aq)) ak))))⟩
noncomputable def sy:=(uf).1
abbrev lF:Stmt:=top 25
theorem wR:Sc ["rows", "lot"] ["rows", "lot"] lF:=bZ
@[simp] noncomputable def qY:Qe 0 ["rows", "lot"] "stepped" lF fun D n Z=>n "len"->n "range"->n "sum"->n "tuple"->n "zip"->Z:=
 ⟨_,fun ya yb yc yd ye hr=>(aA (aJ (kJ (T := "tuple") cC yd (aj (gA (own:=["place"]) (js:=[1,0]) (fr:=["lot", "rows"]) .val rfl (by trivial) (bV rfl yb (aj (aO call_lenD ya (aj (ao 1) ak)) ak)) (fun _ _ _ _ _ _=>(aU (i:=0) (qX ["place", "lot", "rows"]) rfl (Or.inr rfl))) (fun _ _ _ _ _ _=>lU) (fun _ _ _ _ _ _=>(aO (dq hr.hd) yc (aj (gA (own:=["weight", "row"]) (js:=[0]) (fr:=["place"]) .val rfl (by trivial) (Es rfl ye (aj (ao 1) (aj (ao 2) ak))) (fun _ _ _ _ _ _=>(iM (n:=2) rfl (bB (aU (i:=0) (qX ["weight", "row", "place"]) rfl (Or.inl rfl)) (bB (aU (i:=1) (qX ["weight", "row", "place"]) rfl (Or.inl rfl)) gf)))) (fun _ _ _ _ _ _=>lU) (fun _ _ _ _ _ _=>(aK gj (ao 0) (bM cF (ao 1) (ao 2))))) ak)))) ak))))⟩
noncomputable def qL:=(qY).1
abbrev dW:Stmt:=inClass (top 26) 0
theorem nR:Sc ["self", "rows"] ["self", "rows"] dW:=bZ
@[simp] noncomputable def iw:Qd 4 ["self", "rows"] "Walk.__init__" dW fun P w K m o Z=>∀{F0 t_MOST_PLACES C_Walk},DefD P w K m o 4 "can_be_walked" ["thing"] v0->XTab K m fH F0->Gi m "MOST_PLACES" 25 t_MOST_PLACES->OCls K m "Walk" C_Walk ["rows", "whole"]->Nn m "sum"->Z:=
 ⟨_,fun ya yb yc yd ye hr=>(au (bN (b7 (bC (aB ya hr aG (aj (ao 1) ak)) (fun _=>rfl)))
  (aA (gD yb (by decide) (sS aY (oR (lO yc)) aY)))
  bh)
  (au (xW yd (by decide) (ao 0) (ao 1))
  (aA (xW yd (by decide) (ao 0) (aO (dq hr.hd) ye (aj (bM cF (ao 1) aq) ak))))))⟩
noncomputable def ie:=(iw v0).1
abbrev cj:Stmt:=inClass (top 26) 4
theorem jU:Sc ["self", "lot", "steps", "step"] ["self", "lot", "steps"] cj:=bZ
@[simp] noncomputable def gO:Qd 4 ["self", "lot", "steps", "step"] "Walk.after" cj fun P w K m o Z=>∀{F0 C_Walk},DefD P w K m o 4 "refuse_no_lot" ["thing"] v0->DefD P w K m o 2 "refuse_no_steps" ["thing"] v1->DefD P w K m o 1 "stepped" ["rows", "lot"] v2->XTab K m fH F0->OCls K m "Walk" C_Walk ["rows", "whole"]->Nn m "len"->Nn m "range"->Z:=
 ⟨_,fun ya yb yc yd ye yf yg hr=>have nd:=jU.nd;(au (gh (aB ya hr aG (aj (ao 1) ak)))
  (au (bN (bF (dC hr.units) (aO call_lenD yf (aj (ao 1) ak)) (aO call_lenD yf (aj (kI ye (by decide) (ao 0)) ak)))
  (aA (gD yd (by decide) aY))
  bh)
  (au (gh (aB yb hr aG (aj (ao 2) ak)))
  (au (gC 0 PassesOwn.leaving rfl (bV rfl yg (aj (ao 2) ak)) (aU (i:=3) nd rfl (Or.inl rfl))
  (aA (aV (i:=1) nd rfl (Or.inl rfl) (aB yc hr aG (aj (kI ye (by decide) (ao 0)) (aj (ao 1) ak))))))
  (aA (aJ (ao 1)))))))⟩
noncomputable def bx:=(gO v0 v1 v2).1
abbrev dX:Stmt:=inClass (top 26) 5
theorem jV:Sc ["self", "steps", "many"] ["self", "steps"] dX:=bZ
@[simp] noncomputable def lA:Qd 5 ["self", "steps", "many"] "Walk.power" dX fun P w K m o Z=>∀{C_Walk},DefD P w K m o 1 "lot_at" ["place", "many"] v0->MethD P w K m o 5 "Walk" "after" "Walk.after" cj ["self", "lot", "steps"] v1->OCls K m "Walk" C_Walk ["rows", "whole"]->Nn m "len"->Nn m "range"->Nn m "tuple"->Z:=
 ⟨_,fun ya yb yc yd ye yf hr=>have nd:=jV.nd;(au (aV (i:=2) nd rfl (Or.inr rfl) (aO call_lenD yd (aj (kI yc (by decide) (ao 0)) ak)))
  (aA (aJ (kJ (T := "tuple") cC yf (aj (Aa (own:=["place"]) (js:=[0,2,1]) (fr:=["self", "many", "steps"]) .val rfl (by trivial) (bV rfl ye (aj (ao 2) ak)) (fun _ _ _ _ _ _=>(aU (i:=0) (qX ["place", "self", "many", "steps"]) rfl (Or.inl rfl))) (fun _ _ _ _ _ _=>lU) (fun pins_ m_ fp_ C_ s_ H_ Eh_=>(jk (ks:=["steps"]) yb hr BR (ao 1) (aj (aB ya hr BR (aj (ao 0) (aj (ao 2) ak))) ak) (vY (ao 3) oX) (fun _ _ _ _ _ _ us ws h1 h2=>by obtain⟨_,rfl⟩:=lg h1;obtain⟨_,_,rfl⟩:=qm (show us.length=2 by simpa using h2);rfl)))) ak)))))⟩
noncomputable def gm:=(lA v0 v1).1
abbrev cX:Stmt:=inClass (top 26) 6
theorem iZ:Sc ["self", "start", "place", "steps", "lot"] ["self", "start", "place", "steps"] cX:=bZ
@[simp] noncomputable def jQ:Qd 5 ["self", "start", "place", "steps", "lot"] "Walk.chance" cX fun P w K m o Z=>∀{C_Walk},DefD P w K m o 3 "refuse_no_place" ["walk", "thing"] v0->DefD P w K m o 1 "lot_at" ["place", "many"] v1->DefD P w K m o 2 "plain_of" ["above", "below"] v2->MethD P w K m o 5 "Walk" "after" "Walk.after" cj ["self", "lot", "steps"] v3->OCls K m "Walk" C_Walk ["rows", "whole"]->Nn m "len"->Nn m "sum"->Z:=
 ⟨_,fun ya yb yc yd ye yf yg hr=>have nd:=iZ.nd;(au (gh (aB ya hr aG (aj (ao 0) (aj (ao 1) ak))))
  (au (gh (aB ya hr aG (aj (ao 0) (aj (ao 2) ak))))
  (au (aV (i:=4) nd rfl (Or.inl rfl) (jk (ks:=["steps"]) yd hr aG (ao 0) (aj (aB yb hr aG (aj (ao 1) (aj (aO call_lenD yf (aj (kI ye (by decide) (ao 0)) ak)) ak))) ak) (vY (ao 3) oX) (fun _ _ _ _ _ _ us ws h1 h2=>by obtain⟨_,rfl⟩:=lg h1;obtain⟨_,_,rfl⟩:=qm (show us.length=2 by simpa using h2);rfl)))
  (aA (aJ (aB yc hr aG (aj (bM cF (ao 4) (ao 2)) (aj (aO (dq hr.hd) yg (aj (ao 4) ak)) ak))))))))⟩
noncomputable def cA:=(jQ v0 v1 v2 v3).1
abbrev eU:Stmt:=top 28
theorem pN:Sc ["_law_script", "_law_k"] ["_law_script", "_law_k"] eU:=bZ
@[simp] noncomputable def iU:Qe 0 ["_law_script", "_law_k"] "_law_cell_at" eU fun D n Z=>n "len"->Z:=
 ⟨_,fun ya hr=>(au (bN (bF ph (ao 1) (aO call_lenD ya (aj (ao 0) ak)))
  (aA (aJ (bM cF (ao 0) (ao 1))))
  bh)
  (aA (aJ aq)))⟩
noncomputable def eG:=(iU).1
abbrev jB:Stmt:=top 29
theorem m5:Sc ["_law_cell", "_law_number", "_law_j", "_law_more"] ["_law_cell"] jB:=bZ
@[simp] noncomputable def pB:Qe 0 ["_law_cell", "_law_number", "_law_j", "_law_more"] "_law_pot" jB fun D n Z=>n "range"->Z:=
 ⟨_,fun ya hr=>have nd:=m5.nd;(au (bN (bF tX (ao 0) (aK my aq aq))
  (aA (aJ (lQ (aj (aK iR (ao 0) (aK my aq aq)) ak))))
  bh)
  (au (aV (i:=1) nd rfl (Or.inl rfl) aq)
  (au (gC 0 PassesOwn.leaving rfl (bV rfl ya (aj aq ak)) (aU (i:=2) nd rfl (Or.inl rfl))
  (au (aV (i:=3) nd rfl (Or.inl rfl) (aK dB (aK gj (aK cg (aK cg (aK dB (ao 0) aq) (aK gj aq (ao 2))) aq) aq) aq))
  (au (aV (i:=3) nd rfl (Or.inl rfl) (aK dB (aK cg (aK cg (aK gj (ao 3) (ao 3)) (aK gj aq (ao 2))) aq) aq))
  (aA (aV (i:=1) nd rfl (Or.inl rfl) (aK cg (aK gj (ao 1) aq) (ao 3)))))))
  (aA (aJ (lQ (aj (ao 1) ak)))))))⟩
noncomputable def jh:=(pB).1
abbrev iH:Stmt:=top 30
theorem lH:Sc ["_law_pot_here", "_law_far", "_law_found"] ["_law_pot_here", "_law_far"] iH:=bZ
@[simp] noncomputable def mY:Qe 0 ["_law_pot_here", "_law_far", "_law_found"] "_law_take" iH fun _ _ Z=>Z:=
 ⟨_,fun  hr=>have nd:=lH.nd;(au (aV (i:=2) nd rfl (Or.inl rfl) (aK dB (bM cF (ao 0) aq) (ao 1)))
  (au (gB (aK gJ (bM cF (ao 0) aq) (ao 1)) (oW (ao 0) aq rG))
  (aA (aJ (ao 2)))))⟩
noncomputable def mR:=(mY).1
abbrev gW:Stmt:=top 31
theorem rA:Sc ["_law_thing"] ["_law_thing"] gW:=bZ
@[simp] noncomputable def lD:Qe 0 ["_law_thing"] "_law_whole" gW fun D n Z=>n "bool"->n "int"->n "isinstance"->Z:=
 ⟨_,fun ya yb yc hr=>(aA (aJ (dI (aO bU yc (aj (ao 0) (aj (fX (T := "int") yb) ak))) (dJ (xV (aO bU yc (aj (ao 0) (aj (fX (T := "bool") ya) ak))))))))⟩
noncomputable def rZ:=(lD).1
abbrev fL:Stmt:=top 32
theorem qu:Sc ["_law_thing", "_law_low", "_law_high"] ["_law_thing", "_law_low", "_law_high"] fL:=bZ
@[simp] noncomputable def jR:Qe 1 ["_law_thing", "_law_low", "_law_high"] "_law_within" fL fun D n Z=>D 1 "_law_whole" ["_law_thing"] v0->Z:=
 ⟨_,fun ya hr=>(aA (aJ (dI (aB ya hr aG (aj (ao 0) ak)) (dJ (sJ dU dU (ao 1) (ao 0) (ao 2))))))⟩
noncomputable def jN:=(jR v0).1
abbrev gU:Stmt:=top 33
theorem jX:Sc ["_law_pot_here", "_law_some", "_law_left"] ["_law_pot_here", "_law_some"] gU:=bZ
@[simp] noncomputable def gP:Qe 1 ["_law_pot_here", "_law_some", "_law_left"] "_law_mixed" gU fun D n Z=>D 1 "_law_take" ["_law_pot_here", "_law_far"] v0->n "len"->n "list"->Z:=
 ⟨_,fun ya yb yc hr=>have nd:=jX.nd;(au (aV (i:=2) nd rfl (Or.inr rfl) (kJ (T := "list") vP yc (aj (ao 1) ak)))
  (aA (aJ (xR "_law_one" [2,0] ["_law_left", "_law_pot_here"] (kO (ao 1)) (oO PySem.F.plainAttrs_list PySem.F.slot_list_pop PySem.F.type_list_pop De (ao 1) (aj (aB ya hr tY (aj (ao 2) (aj (aO call_lenD yb (aj (ao 1) ak)) ak))) ak))))))⟩
noncomputable def j9:=(gP v0).1
abbrev jA:Stmt:=top 34
theorem mZ:Sc ["_law_pot_here", "_law_wide", "_law_found", "_law_turn"] ["_law_pot_here", "_law_wide"] jA:=bZ
@[simp] noncomputable def pA:Qe 1 ["_law_pot_here", "_law_wide", "_law_found", "_law_turn"] "_law_lot" jA fun D n Z=>D 1 "_law_take" ["_law_pot_here", "_law_far"] v0->n "range"->n "tuple"->Z:=
 ⟨_,fun ya yb yc hr=>have nd:=mZ.nd;(au (aV (i:=2) nd rfl (Or.inl rfl) (lQ ak))
  (au (gC 0 PassesOwn.leaving rfl (bV rfl yb (aj (ao 1) ak)) (aU (i:=3) nd rfl (Or.inl rfl))
  (aA (gh (oO PySem.F.plainAttrs_list PySem.F.slot_list_append PySem.F.type_list_append uW (ao 2) (aj (bM cF (bJ (aj aq (aj aq (aj (aB ya hr aG (aj (ao 0) (aj aq ak))) (aj (aB ya hr aG (aj (ao 0) (aj aq ak))) (aj (aB ya hr aG (aj (ao 0) (aj (aK my aq aq) ak))) ak)))))) (aB ya hr aG (aj (ao 0) (aj aq ak)))) ak)))))
  (au (gB (aK cg (bM cF (ao 2) aq) aq) (oW (ao 2) (aB ya hr aG (aj (ao 0) (aj (ao 1) ak))) rG))
  (aA (aJ (kJ (T := "tuple") cC yc (aj (ao 2) ak)))))))⟩
noncomputable def oF:=(pA v0).1
abbrev jC:Stmt:=top 35
theorem m6:Sc ["_law_pot_here", "_law_wide", "_law_whole_here", "_law_some", "_law_found", "_law_left", "_law_order", "_law_place", "_law_part"] ["_law_pot_here", "_law_wide", "_law_whole_here", "_law_some"] jC:=bZ
@[simp] noncomputable def pC:Qe 2 ["_law_pot_here", "_law_wide", "_law_whole_here", "_law_some", "_law_found", "_law_left", "_law_order", "_law_place", "_law_part"] "_law_row" jC fun D n Z=>D 2 "_law_mixed" ["_law_pot_here", "_law_some"] v0->D 1 "_law_take" ["_law_pot_here", "_law_far"] v1->n "tuple"->Z:=
 ⟨_,fun ya yb yc hr=>have nd:=m6.nd;(au (CP (i:=4) (j:=5) (k:=6) rfl nd rfl rfl rfl (by decide) (by decide) (by decide) rfl rfl rfl (aj (aK Dl (bJ (aj aq ak)) (ao 1)) (aj (ao 2) (aj (aB ya hr aG (aj (ao 0) (aj (ao 3) ak))) ak))) rfl)
  (au (gC 0 PassesOwn.leaving rfl (kO (Ab (ao 6) (CN aq) CK)) (aU (i:=7) nd rfl (Or.inl rfl))
  (au (aV (i:=8) nd rfl (Or.inl rfl) (bM cF (bJ (aj aq (aj (ao 5) (aj (aB yb hr aG (aj (ao 0) (aj (aK cg (ao 5) aq) ak))) ak)))) (aB yb hr aG (aj (ao 0) (aj aq ak)))))
  (aA (gB (bK (aj (ao 8) (aj (aK iR (ao 5) (ao 8)) ak))) (iM (n:=2) rfl (bB (oW (ao 4) (ao 7) rG) (bB (aU (i:=5) nd rfl (Or.inl rfl)) gf)))))))
  (au (gB (ao 5) (oW (ao 4) (bM cF (ao 6) aq) rG))
  (aA (aJ (kJ (T := "tuple") cC yc (aj (ao 4) ak)))))))⟩
noncomputable def oG:=(pC v0 v1).1
abbrev iG:Stmt:=top 36
theorem lG:Sc ["_law_pot_here", "_law_top", "_law_wide", "_law_whole_here", "_law_kind", "_law_rows_here", "_law_x", "_law_some"] ["_law_pot_here", "_law_top"] iG:=bZ
@[simp] noncomputable def iD:Qe 3 ["_law_pot_here", "_law_top", "_law_wide", "_law_whole_here", "_law_kind", "_law_rows_here", "_law_x", "_law_some"] "_law_rows" iG fun D n Z=>D 1 "_law_take" ["_law_pot_here", "_law_far"] v0->D 3 "_law_row" ["_law_pot_here", "_law_wide", "_law_whole_here", "_law_some"] v1->n "list"->n "range"->n "set"->n "sorted"->n "tuple"->Z:=
 ⟨_,fun ya yb yc yd ye yf yg hr=>have nd:=lG.nd;(au (gB (bK (aj (aK cg aq (aB ya hr aG (aj (ao 0) (aj (ao 1) ak)))) (aj (bM cF (bJ (aj aq (aj aq (aj aq (aj aq (aj aq ak)))))) (aB ya hr aG (aj (ao 0) (aj aq ak)))) ak))) (iM (n:=2) rfl (bB (aU (i:=2) nd rfl (Or.inr rfl)) (bB (aU (i:=3) nd rfl (Or.inl rfl)) gf))))
  (au (xX (i:=4) (j:=5) rfl nd rfl rfl (by decide) rfl rfl (aj (aB ya hr aG (aj (ao 0) (aj aq ak))) (aj (lQ ak) ak)) rfl)
  (au (gC 0 PassesOwn.leaving rfl (bV rfl yd (aj (ao 2) ak)) (aU (i:=6) nd rfl (Or.inr rfl))
  (au (aV (i:=7) nd rfl (Or.inl rfl) (xT rfl yc yd (aj (ao 2) ak)))
  (au (bN (bF (eQ hr.units) (ao 4) aq)
  (aA (sW (i:=7) (own:=["_law_y"]) (js:=[2,6]) (fr:=["_law_wide", "_law_x"]) .val nd rfl (Or.inl rfl) rfl (by trivial) (kO (ao 7)) (fun _ _ _ _ _ _=>(aU (i:=0) (qX ["_law_y", "_law_wide", "_law_x"]) rfl (Or.inl rfl))) (fun _ _ _ _ _ _=>(pX (bF (eQ hr.units) (gq ph (ao 0) (aK gJ (ao 1) aq)) (gq ph (ao 2) (aK gJ (ao 1) aq))))) (fun _ _ _ _ _ _=>(ao 0))))
  bh)
  (au (bN (DW.dt (Et (bF (eQ hr.units) (ao 4) aq) (CQ (bF yQ (ao 2) aq))))
  (aA (sW (i:=7) (own:=["_law_y"]) (js:=[6]) (fr:=["_law_x"]) .val nd rfl (Or.inl rfl) rfl (by trivial) (kO (ao 7)) (fun _ _ _ _ _ _=>(aU (i:=0) (qX ["_law_y", "_law_x"]) rfl (Or.inl rfl))) (fun _ _ _ _ _ _=>(pX (bF (dC hr.units) (aK dB (ao 0) aq) (aK dB (ao 1) aq)))) (fun _ _ _ _ _ _=>(ao 0))))
  bh)
  (au (bN (bF (eQ hr.units) (ao 4) aq)
  (aA (aV (i:=7) nd rfl (Or.inl rfl) (CJ rfl yf ye (aj (bJ (aj (ao 6) (aj (aK dB (aK cg (ao 6) aq) (ao 2)) ak))) ak))))
  bh)
  (aA (gh (oO PySem.F.plainAttrs_list PySem.F.slot_list_append PySem.F.type_list_append uW (ao 5) (aj (aB yb hr aG (aj (ao 0) (aj (ao 2) (aj (ao 3) (aj (ao 7) ak))))) ak)))))))))
  (aA (aJ (kJ (T := "tuple") cC yg (aj (ao 5) ak)))))))⟩
noncomputable def mQ:=(iD v0 v1).1
abbrev gR:Stmt:=top 38
theorem rn:Sc ["_law_rights"] ["_law_rights"] gR:=bZ
@[simp] noncomputable def lB:Qe 0 ["_law_rights"] "_law_first" gR fun _ _ Z=>Z:=
 ⟨_,fun  hr=>(aA (aJ (bM cF (aK cg (gA (own:=["_law_word", "_law_good"]) (js:=[]) (fr:=[]) .val rfl (by trivial) (kO (ao 0)) (fun _ _ _ _ _ _=>(iM (n:=2) rfl (bB (aU (i:=0) (qX ["_law_word", "_law_good"]) rfl (Or.inl rfl)) (bB (aU (i:=1) (qX ["_law_word", "_law_good"]) rfl (Or.inl rfl)) gf)))) (fun _ _ _ _ _ _=>(pX (b7 (bC (ao 1) (fun _=>rfl))))) (fun _ _ _ _ _ _=>(ao 0))) (bJ (aj aY ak))) aq)))⟩
noncomputable def rW:=(lB).1
end
theorem Jf{α β:Type}{c:Prop}[Decidable c]{x y:DM α}{k:α->DM β}:((if c then x else y)>>=k)=if c then x>>=k else y>>=k:=by split<;>rfl
abbrev cJ:Stmt:=top 37
theorem jW:FnScope ["_law_call", "e", "_law_some"] ["_law_call"] (defScope cJ):=wQ rfl rfl rfl rfl (by decide +kernel)
@[simp] noncomputable def lC:{b:DM D->aa->DM Fl // ∀{P w K mg base f cdv A outer s H E ρ g th k F0 C_NoLot C_NoNumber C_NoPlace C_NoSteps C_Unlike} (XT:XTab K mg fH F0) (m_NoLot:Gc mg "NoLot" C_NoLot) (m_NoNumber:Gc mg "NoNumber" C_NoNumber) (m_NoPlace:Gc mg "NoPlace" C_NoPlace) (m_NoSteps:Gc mg "NoSteps" C_NoSteps) (m_Unlike:Gc mg "Unlike" C_Unlike) (m_FadeError:Gc mg "FadeError" F0) (z_isinstance:Nn mg "isinstance") (hk:0≤k) (ht:ThD P w K mg base k outer s H ρ g th) (hq:Rm k A "_law_heard" cJ s f cdv),ASs (aH P w K mg base ["_law_call", "e", "_law_some"] "_law_heard" (defScope cJ) f cdv A outer s H E) E (Ed 0 g ρ H) (defBody cJ) (b th)}:=
 ⟨_,fun XT m_NoLot m_NoNumber m_NoPlace m_NoSteps m_Unlike m_FadeError z_isinstance hk ht hq=>have hr:=Room.mono hq hk;have nd:=jW.nd;(zN (Ek 3 (fh:=fun c=>(jH (fun δ=>(fun δ=>(fun δ=>(fun δ=>(fun δ=>(bD 1) δ>>=fun x=>(fun δ=>(fun _=>pure (D.cls "NoLot")) δ>>=fun x=>(fun _=>pure []) δ>>=fun xs=>pure (x::xs)) δ>>=fun xs=>pure (x::xs)) δ>>=fun l=>rd (nF fH c l)) δ>>=fun x=>(fun δ=>(fun δ=>(fun δ=>(bD 1) δ>>=fun x=>(fun δ=>(fun _=>pure (D.cls "Unlike")) δ>>=fun x=>(fun _=>pure []) δ>>=fun xs=>pure (x::xs)) δ>>=fun xs=>pure (x::xs)) δ>>=fun l=>rd (nF fH c l)) δ>>=fun x=>(fun δ=>(fun δ=>(fun δ=>(bD 1) δ>>=fun x=>(fun δ=>(fun _=>pure (D.cls "NoPlace")) δ>>=fun x=>(fun _=>pure []) δ>>=fun xs=>pure (x::xs)) δ>>=fun xs=>pure (x::xs)) δ>>=fun l=>rd (nF fH c l)) δ>>=fun x=>(fun δ=>(fun δ=>(fun δ=>(bD 1) δ>>=fun x=>(fun δ=>(fun _=>pure (D.cls "NoSteps")) δ>>=fun x=>(fun _=>pure []) δ>>=fun xs=>pure (x::xs)) δ>>=fun xs=>pure (x::xs)) δ>>=fun l=>rd (nF fH c l)) δ>>=fun x=>(fun _=>pure []) δ>>=fun xs=>pure (x::xs)) δ>>=fun xs=>pure (x::xs)) δ>>=fun xs=>pure (x::xs)) δ>>=fun xs=>pure (x::xs)) δ>>=dR) δ>>=fun d=>pure (Fl.nx (δ.set 2 (some d))))
  (jH (fun δ=>(fun δ=>(fun δ=>(fun δ=>(fun δ=>(bD 2) δ>>=fun x=>rd (fun M=>aN x M)>>=fun _=>(fun δ=>(fun _=>pure (D.bl true)) δ>>=fun x=>(fun _=>pure []) δ>>=fun xs=>pure (x::xs)) δ>>=fun xs=>sH x xs) δ>>=fun x=>(fun _=>pure (D.int 1)) δ>>=fun y=>rd (lu x y)) δ>>=eY) δ>>=fun k=>if k then pure true else (fun δ=>(fun δ=>(fun δ=>(bD 1) δ>>=fun x=>(fun δ=>(fun _=>pure (D.cls "NoNumber")) δ>>=fun x=>(fun _=>pure []) δ>>=fun xs=>pure (x::xs)) δ>>=fun xs=>pure (x::xs)) δ>>=fun l=>rd (nF fH c l)) δ>>=fun x=>rd (jK x)) δ) δ>>=fun k=>if k then (fun δ=>(fun _=>pure (D.str "other")) δ>>=fun d=>pure (Fl.rt d)) δ else (fun δ=>pure (Fl.nx δ)) δ)
  (fun δ=>(fun δ=>(fun δ=>(fun δ=>(fun _=>pure (D.str "lot")) δ>>=fun x=>(fun δ=>(fun _=>pure (D.str "unlike")) δ>>=fun x=>(fun δ=>(fun _=>pure (D.str "place")) δ>>=fun x=>(fun δ=>(fun _=>pure (D.str "steps")) δ>>=fun x=>(fun _=>pure []) δ>>=fun xs=>pure (x::xs)) δ>>=fun xs=>pure (x::xs)) δ>>=fun xs=>pure (x::xs)) δ>>=fun xs=>pure (x::xs)) δ>>=dR) δ>>=fun x=>(fun δ=>(bD 2) δ>>=fun x=>rd (fun M=>aN x M)>>=fun _=>(fun δ=>(fun _=>pure (D.bl true)) δ>>=fun x=>(fun _=>pure []) δ>>=fun xs=>pure (x::xs)) δ>>=fun xs=>tK x xs) δ>>=fun y=>rd (fu x y)) δ>>=fun d=>pure (Fl.rt d))))) (fy:=fun y c=>(jH (fun δ=>(fun δ=>(fun δ=>(fun δ=>(fun δ=>(bD 1) δ>>=fun x=>(fun δ=>(fun _=>pure (D.cls "NoLot")) δ>>=fun x=>(fun _=>pure []) δ>>=fun xs=>pure (x::xs)) δ>>=fun xs=>pure (x::xs)) δ>>=fun l=>rd (jt fH y c l)) δ>>=fun x=>(fun δ=>(fun δ=>(fun δ=>(bD 1) δ>>=fun x=>(fun δ=>(fun _=>pure (D.cls "Unlike")) δ>>=fun x=>(fun _=>pure []) δ>>=fun xs=>pure (x::xs)) δ>>=fun xs=>pure (x::xs)) δ>>=fun l=>rd (jt fH y c l)) δ>>=fun x=>(fun δ=>(fun δ=>(fun δ=>(bD 1) δ>>=fun x=>(fun δ=>(fun _=>pure (D.cls "NoPlace")) δ>>=fun x=>(fun _=>pure []) δ>>=fun xs=>pure (x::xs)) δ>>=fun xs=>pure (x::xs)) δ>>=fun l=>rd (jt fH y c l)) δ>>=fun x=>(fun δ=>(fun δ=>(fun δ=>(bD 1) δ>>=fun x=>(fun δ=>(fun _=>pure (D.cls "NoSteps")) δ>>=fun x=>(fun _=>pure []) δ>>=fun xs=>pure (x::xs)) δ>>=fun xs=>pure (x::xs)) δ>>=fun l=>rd (jt fH y c l)) δ>>=fun x=>(fun _=>pure []) δ>>=fun xs=>pure (x::xs)) δ>>=fun xs=>pure (x::xs)) δ>>=fun xs=>pure (x::xs)) δ>>=fun xs=>pure (x::xs)) δ>>=dR) δ>>=fun d=>pure (Fl.nx (δ.set 2 (some d))))
  (jH (fun δ=>(fun δ=>(fun δ=>(fun δ=>(fun δ=>(bD 2) δ>>=fun x=>rd (fun M=>aN x M)>>=fun _=>(fun δ=>(fun _=>pure (D.bl true)) δ>>=fun x=>(fun _=>pure []) δ>>=fun xs=>pure (x::xs)) δ>>=fun xs=>sH x xs) δ>>=fun x=>(fun _=>pure (D.int 1)) δ>>=fun y=>rd (lu x y)) δ>>=eY) δ>>=fun k=>if k then pure true else (fun δ=>(fun δ=>(fun δ=>(bD 1) δ>>=fun x=>(fun δ=>(fun _=>pure (D.cls "NoNumber")) δ>>=fun x=>(fun _=>pure []) δ>>=fun xs=>pure (x::xs)) δ>>=fun xs=>pure (x::xs)) δ>>=fun l=>rd (jt fH y c l)) δ>>=fun x=>rd (jK x)) δ) δ>>=fun k=>if k then (fun δ=>(fun _=>pure (D.str "other")) δ>>=fun d=>pure (Fl.rt d)) δ else (fun δ=>pure (Fl.nx δ)) δ)
  (fun δ=>(fun δ=>(fun δ=>(fun δ=>(fun _=>pure (D.str "lot")) δ>>=fun x=>(fun δ=>(fun _=>pure (D.str "unlike")) δ>>=fun x=>(fun δ=>(fun _=>pure (D.str "place")) δ>>=fun x=>(fun δ=>(fun _=>pure (D.str "steps")) δ>>=fun x=>(fun _=>pure []) δ>>=fun xs=>pure (x::xs)) δ>>=fun xs=>pure (x::xs)) δ>>=fun xs=>pure (x::xs)) δ>>=fun xs=>pure (x::xs)) δ>>=dR) δ>>=fun x=>(fun δ=>(bD 2) δ>>=fun x=>rd (fun M=>aN x M)>>=fun _=>(fun δ=>(fun _=>pure (D.bl true)) δ>>=fun x=>(fun _=>pure []) δ>>=fun xs=>pure (x::xs)) δ>>=fun xs=>tK x xs) δ>>=fun y=>rd (fu x y)) δ>>=fun d=>pure (Fl.rt d))))) (i:=1) XT rfl rfl rfl rfl rfl nd rfl rfl m_FadeError (fun pins_ Eh_=>(Cu (Cr (zL hq (Hx rfl rfl rfl) ht))))
  (fun c C y oe hc_ hm_ ho_ xa_=>(au (aV (i:=2) nd rfl (Or.inl rfl) (bJ (aj (aO (eZ XT hc_ hm_ ho_ xa_ (List.mem_append_right _ List.mem_cons_self)) z_isinstance (aj (ao 1) (aj (km m_NoLot) ak))) (aj (aO (eZ XT hc_ hm_ ho_ xa_ (List.mem_append_right _ List.mem_cons_self)) z_isinstance (aj (ao 1) (aj (km m_Unlike) ak))) (aj (aO (eZ XT hc_ hm_ ho_ xa_ (List.mem_append_right _ List.mem_cons_self)) z_isinstance (aj (ao 1) (aj (km m_NoPlace) ak))) (aj (aO (eZ XT hc_ hm_ ho_ xa_ (List.mem_append_right _ List.mem_cons_self)) z_isinstance (aj (ao 1) (aj (km m_NoSteps) ak))) ak))))))
  (au (bN (DW.dt (jl (bF (dC hr.units) (oO PySem.F.plainAttrs_list PySem.F.slot_list_count PySem.F.type_list_count yL (ao 2) (aj cV ak)) aq) (iQ (bC (aO (eZ XT hc_ hm_ ho_ xa_ (List.mem_append_right _ List.mem_cons_self)) z_isinstance (aj (ao 1) (aj (km m_NoNumber) ak))) (fun _=>rfl)))))
  (aA (aJ aY))
  bh)
  (aA (aJ (bM cF (bJ (aj aY (aj aY (aj aY (aj aY ak))))) (oO PySem.F.plainAttrs_list PySem.F.slot_list_index PySem.F.type_list_index yM (ao 2) (aj cV ak)))))))) (fun y c M r h=>by rw[←h];simp[jH,bD,Jh,Je,Hn,Bt,Jf]))
  (aA (aJ aY)))⟩
noncomputable def rY:DM D->aa->DM Fl:=(lC).1
abbrev rF:Stmt:=top 39
theorem zr:FnScope ["_law_script", "_law_k", "_law_pot_here", "_law_rows_here", "_law_walk", "_law_wide", "_law_lot_here", "_law_turn", "_law_lots", "_law_some", "_law_far", "_law_x", "_law_y", "_law_fine", "_law_good", "_law_due", "_law_places"] ["_law_script"] (defScope rF):=wQ rfl rfl rfl rfl (by decide +kernel)
local macro_rules | `(tactic| trivial)=>`(tactic| (repeat' apply And.intro)<;>first | exact True.intro | rfl | exact⟨_,rfl⟩ | exact Or.inl rfl)
@[simp] noncomputable def wK(F__law_cell_at F__law_pot F__law_rows F__law_lot F__law_take F__law_within F__law_first F_Walk F_Walk_after F_Walk_power F_Walk_chance:Fn)(F__law_heard:DM D->DM D):{b // ∀{P w K mg base f cdv A outer s H E c_ P_} (D__law_cell_at:DefD P w K mg base 1 "_law_cell_at" ["_law_script", "_law_k"] F__law_cell_at) (D__law_pot:DefD P w K mg base 1 "_law_pot" ["_law_cell"] F__law_pot) (D__law_rows:DefD P w K mg base 4 "_law_rows" ["_law_pot_here", "_law_top"] F__law_rows) (D__law_lot:DefD P w K mg base 2 "_law_lot" ["_law_pot_here", "_law_wide"] F__law_lot) (D__law_take:DefD P w K mg base 1 "_law_take" ["_law_pot_here", "_law_far"] F__law_take) (D__law_within:DefD P w K mg base 2 "_law_within" ["_law_thing", "_law_low", "_law_high"] F__law_within) (D__law_first:DefD P w K mg base 1 "_law_first" ["_law_rights"] F__law_first) (W_Walk:ClsD P w K mg base 5 "Walk" F_Walk) (M_Walk_after:MethD P w K mg base 5 "Walk" "after" "Walk.after" cj ["self", "lot", "steps"] F_Walk_after) (M_Walk_power:MethD P w K mg base 6 "Walk" "power" "Walk.power" dX ["self", "steps"] F_Walk_power) (M_Walk_chance:MethD P w K mg base 6 "Walk" "chance" "Walk.chance" cX ["self", "start", "place", "steps"] F_Walk_chance) (z_isinstance:Nn mg "isinstance") (z_len:Nn mg "len") (z_list:Nn mg "list") (z_max:Nn mg "max") (z_min:Nn mg "min") (z_range:Nn mg "range") (z_sum:Nn mg "sum") (z_tuple:Nn mg "tuple") (H__law_heard:HrdD P w K mg base (7+1) "_law_heard" F__law_heard) (TB:TabD mg base c_ P_) (hC:cdv=.ref c_) (hP:∃ps,H P_=some (.tbl ps)) (hr:Rm 9 A "law" rF s f cdv),Ds P w K mg base ["_law_script", "_law_k", "_law_pot_here", "_law_rows_here", "_law_walk", "_law_wide", "_law_lot_here", "_law_turn", "_law_lots", "_law_some", "_law_far", "_law_x", "_law_y", "_law_fine", "_law_good", "_law_due", "_law_places"] "law" rF f cdv A outer s H E b}:=
 ⟨_,fun D__law_cell_at D__law_pot D__law_rows D__law_lot D__law_take D__law_within D__law_first W_Walk M_Walk_after M_Walk_power M_Walk_chance z_isinstance z_len z_list z_max z_min z_range z_sum z_tuple H__law_heard TB hC hP hr=>have nd:=zr.nd;(au (gC 0 PassesOwn.leaving rfl (bV rfl z_range (aj (aO (vQ rfl) z_max (aj aq (aj (aO (vR rfl) z_min (aj (aO call_lenD z_len (aj (ao 0) ak)) (aj aq ak))) ak))) ak)) (aU (i:=1) nd rfl (Or.inl rfl))
  (au (aV (i:=2) nd rfl (Or.inl rfl) (aB D__law_pot hr aG (aj (aB D__law_cell_at hr aG (aj (ao 0) (aj (ao 1) ak))) ak)))
  (au (aV (i:=3) nd rfl (Or.inl rfl) (aB D__law_rows hr aG (aj (ao 2) (aj aq ak))))
  (au (gB (bK (aj (Cz W_Walk hr aG (aj (ao 3) ak)) (aj (aO call_lenD z_len (aj (ao 3) ak)) ak))) (iM (n:=2) rfl (bB (aU (i:=4) nd rfl (Or.inr rfl)) (bB (aU (i:=5) nd rfl (Or.inl rfl)) gf))))
  (au (aV (i:=6) nd rfl (Or.inl rfl) (aB D__law_lot hr aG (aj (ao 2) (aj (ao 5) ak))))
  (aA (gC 0 PassesOwn.leaving rfl (bV rfl z_range (aj aq ak)) (aU (i:=7) nd rfl (Or.inl rfl))
  (au (aV (i:=8) nd rfl (Or.inl rfl) (bJ (aj (ao 6) (aj (ao 6) (aj (aK cg (ao 6) (bK (aj aq ak))) (aj (aK Dm (bK (aj aq ak)) (ao 5)) (aj (kJ (T := "list") vO z_list (aj (ao 6) ak)) (aj oU (aj (aB D__law_lot hr aG (aj (ao 2) (aj (ao 5) ak))) ak)))))))))
  (au (aV (i:=9) nd rfl (Or.inr rfl) (bM cF (ao 8) (aB D__law_take hr aG (aj (ao 2) (aj aq ak)))))
  (au (aV (i:=10) nd rfl (Or.inr rfl) (bM cF (bJ (aj aq (aj aq (aj aq (aj aq (aj (xU aq) (aj cV (aj oU (aj aY (aj (aK my aq aq) ak)))))))))) (aB D__law_take hr aG (aj (ao 2) (aj aq ak)))))
  (au (gB (bK (aj (bM cF (bJ (aj aq (aj (aK iR (ao 5) aq) (aj (ao 5) (aj (xU aq) (aj cV (aj oU (aj aY (aj (bK (aj aq ak)) ak))))))))) (aB D__law_take hr aG (aj (ao 2) (aj aq ak)))) (aj (bM cF (bJ (aj aq (aj (ao 5) (aj oU ak)))) (aB D__law_take hr aG (aj (ao 2) (aj aq ak)))) ak))) (iM (n:=2) rfl (bB (aU (i:=11) nd rfl (Or.inr rfl)) (bB (aU (i:=12) nd rfl (Or.inr rfl)) gf))))
  (au (aV (i:=13) nd rfl (Or.inl rfl) (aB D__law_within hr aG (aj (ao 10) (aj aq (aj aq ak)))))
  (au (aV (i:=14) nd rfl (Or.inl rfl) (dI (aO bU z_isinstance (aj (ao 9) (aj (fX (T := "tuple") z_tuple) ak))) (dJ (gq yQ (aO (dq hr.hd) z_sum (aj (ao 9) ak)) aq))))
  (au (aV (i:=15) nd rfl (Or.inl rfl) (aB D__law_first hr aG (aj (bJ (aj (bK (aj aY (aj (ao 14) ak))) (aj (bK (aj aY (aj (dI (ao 14) (dJ (gq (eQ hr.units) (aO call_lenD z_len (aj (ao 9) ak)) (ao 5)))) ak))) (aj (bK (aj aY (aj (ao 13) ak))) ak)))) ak)))
  (au (bN (bF (dC hr.units) (sU [4,9,10] ["_law_walk", "_law_some", "_law_far"] H__law_heard hr aG TB hC hP (fun hr=>(jk (ks:=["steps"]) M_Walk_after hr wI (ao 0) (aj (ao 1) ak) (vY (ao 2) oX) (fun _ _ _ _ _ _ us ws h1 h2=>by obtain⟨_,rfl⟩:=lg h1;obtain⟨_,_,rfl⟩:=qm (show us.length=2 by simpa using h2);rfl))) ⟨⟨rfl,rfl,rfl,by decide +kernel,by decide,o5 rfl,by decide +kernel⟩,rfl,pO (by trivial),rfl,o4 (by trivial)⟩) (ao 15))
  (aA (aJ cV))
  bh)
  (au (bN (bF (dC hr.units) (sU [4,10] ["_law_walk", "_law_far"] H__law_heard hr aG TB hC hP (fun hr=>(CG M_Walk_power hr wI (ao 0) (aj (ao 1) ak) (fun _ _ _ _ _ _ us hl=>by obtain⟨_,_,rfl⟩:=qm hl;rfl))) ⟨⟨rfl,rfl,rfl,by decide +kernel,by decide,o5 rfl,by decide +kernel⟩,rfl,pO (by trivial),rfl,o4 (by trivial)⟩) (aB D__law_first hr aG (aj (bJ (aj (bK (aj aY (aj (ao 13) ak))) ak)) ak)))
  (aA (aJ cV))
  bh)
  (au (aV (i:=16) nd rfl (Or.inl rfl) (bJ (aj (bK (aj aY (aj (aB D__law_within hr aG (aj (ao 11) (aj aq (aj (aK iR (ao 5) aq) ak)))) ak))) (aj (bK (aj aY (aj (aB D__law_within hr aG (aj (ao 12) (aj aq (aj (aK iR (ao 5) aq) ak)))) ak))) (aj (bK (aj aY (aj (ao 13) ak))) ak)))))
  (aA (bN (bF (dC hr.units) (sU [4,11,12,10] ["_law_walk", "_law_x", "_law_y", "_law_far"] H__law_heard hr aG TB hC hP (fun hr=>(jk (ks:=["steps"]) M_Walk_chance hr wI (ao 0) (aj (ao 1) (aj (ao 2) ak)) (vY (ao 3) oX) (fun _ _ _ _ _ _ us ws h1 h2=>by obtain⟨_,rfl⟩:=lg h1;obtain⟨_,_,_,rfl⟩:=Al (show us.length=3 by simpa using h2);rfl))) ⟨⟨rfl,rfl,rfl,by decide +kernel,by decide,o5 rfl,by decide +kernel⟩,rfl,pO (by trivial),rfl,o4 (by trivial)⟩) (aB D__law_first hr aG (aj (ao 16) ak)))
  (aA (aJ cV))
  bh)))))))))))))))))))
  (aA (aJ cV)))⟩
noncomputable def Bs(F__law_cell_at F__law_pot F__law_rows F__law_lot F__law_take F__law_within F__law_first F_Walk F_Walk_after F_Walk_power F_Walk_chance:Fn)(F__law_heard:DM D->DM D):aa->DM Fl:=(wK F__law_cell_at F__law_pot F__law_rows F__law_lot F__law_take F__law_within F__law_first F_Walk F_Walk_after F_Walk_power F_Walk_chance F__law_heard).1
end K
namespace K
open PySem L2 L3 N10
noncomputable def rK:List D->DM D
 |[.int a,.int b]=>if 0≤a∧0≤b then pure (nD (Nat.gcd a.toNat b.toNat)) else stuck
 |_=>stuck
theorem Ez(a b:Nat):rK [nD a,nD b]=pure (nD (Nat.gcd a b)):=by
 simp[rK,nD]
theorem CV {c:aa->DM Bool}{f:aa->DM Fl} (h1:∀ a b:Nat,c [some (nD a),some (nD b)]=pure (b != 0)) (h2:∀ a b:Nat,0<b->f [some (nD a),some (nD b)]=pure (.nx [some (nD b),some (nD (a % b))])) :
  ∀b a:Nat,∃n,fG c f n [some (nD a),some (nD b)]=pure (.nx [some (nD (Nat.gcd a b)),some (nD 0)]):=by
 intro b
 induction b using Nat.strongRecOn with
 | ind b ih=>
   intro a
   rcases Nat.eq_zero_or_pos b with rfl | hb
   ·exact⟨1,by simp[fG,h1]⟩
   ·obtain⟨n,hn⟩:=ih (a%b) (Nat.mod_lt _ hb) b
    refine⟨n+1,?_⟩
    have hb':(b != 0)=true:=by simp;omega
    simp only[fG,h1,aD,hb',if_true,h2 a b hb,hn]
    rw[Nat.gcd_comm a b,Nat.gcd_rec b a,Nat.gcd_comm]
theorem Hr:∀ ds M r,rK ds M=some r->∃ n,aF 2 2 (bR n) ds M=some r:=by
 intro ds M r h
 unfold rK at h
 split at h
 ·rename_i a b
  split at h
  ·rename_i hab
   obtain⟨x,rfl⟩:∃x:Nat,a=x:=⟨a.toNat,by omega⟩
   obtain⟨y,rfl⟩:∃y:Nat,b=y:=⟨b.toNat,by omega⟩
   have h1:∀a b:Nat,(fun δ=>(bD 1) δ>>=fun x=>rd (jK x)) [some (nD a),some (nD b)]=(pure (b != 0):DM Bool):=fun a b=>by
    simp
    refine cu fun M=>?_
    show some ((b:Int) != 0)=_
    congr 1
    rw[Bool.eq_iff_iff];simp
   have h2:∀a b:Nat,0<b->(wH 0 1 (fun δ=>(bD 1) δ>>=fun x=>(fun δ=>(fun δ=>(bD 0) δ>>=fun x=>(bD 1) δ>>=fun y=>rd (gH x y)) δ>>=fun x=>(fun _=>pure []) δ>>=fun xs=>pure (x::xs)) δ>>=fun xs=>pure (x::xs))) [some (nD a),some (nD b)]=pure (.nx [some (nD b),some (nD (a%b))]):=fun a b hb=>by
    have:=zj (a:=a) hb
    simp[nD] at this ⊢
    simp[this]
   obtain⟨n,hn⟩:=CV (c:=(fun δ=>(bD 1) δ>>=fun x=>rd (jK x))) (f:=(wH 0 1 (fun δ=>(bD 1) δ>>=fun x=>(fun δ=>(fun δ=>(bD 0) δ>>=fun x=>(bD 1) δ>>=fun y=>rd (gH x y)) δ>>=fun x=>(fun _=>pure []) δ>>=fun xs=>pure (x::xs)) δ>>=fun xs=>pure (x::xs)))) h1 h2 y x
   refine⟨n,?_⟩
   rw[←h]
   have:aF 2 2 (bR n) [.int x,.int y]=pure (nD (Nat.gcd x y)):=by
    unfold bR cI
    have e:d7 2 [D.int x,D.int y]=[some (nD x),some (nD y)]:=rfl
    simp only[GC,e,Ia,hn]
    simp
   rw[this];simp
  ·cases h
 ·cases h
theorem cH:(∀(α:Type) (a:α) (l:List α),(a::l)[0]?=some a)∧(∀(α:Type) (a:α) (l:List α) (i:Nat),(a::l)[i+1]?=l[i]?)∧(∀(α:Type) (x:Option α),(some x).join=x)∧(∀(α:Type) (a:α),(opt (some a):DM α)=pure a)∧∀(α β:Type) (a:α) (f:α->DM β),((pure a:DM α)>>=f)=f a:=⟨fun _ _ _=>rfl,fun _ _ _ _=>rfl,fun _ _=>rfl,fun _ _=>um _,fun _ _ _ _=>aD _ _⟩
theorem eE:(∀(α:Type) (a b:α) (l:List α) (i:Nat),(a::l).set (i+1) b=a::l.set i b)∧∀(α:Type) (a b:α) (l:List α),(a::l).set 0 b=b::l:=⟨fun _ _ _ _ _=>rfl,fun _ _ _ _=>rfl⟩
noncomputable def mL:=aF 1 1 oJ
noncomputable def qC:=aF 2 2 (jO mL)
noncomputable def qD:=aF 1 1 (su qC)
noncomputable def qH:=aF 1 1 (dH qD)
theorem tL(n:Nat):mL [nD n]=pure (.bl true):=by
 have a:(rd (fK [nD n,.ty "int"]):DM D)=pure (.bl true):=mC (t := "int") (fun _=>rfl) (by decide)
 have b:(rd (fK [nD n,.ty "bool"]):DM D)=pure (.bl false):=mC (t := "int") (fun _=>rfl) (by decide)
 simp[mL,oJ,a,b]
noncomputable def pT(p:Nat×Nat):D:=nT [p.1,p.2]
theorem xG {l:List Nat} (hl:l.length≤1000):qC [nT l,.int (l.length:Int)]=pure (.bl true):=by
 have a:(rd (fK [nT l,.ty "tuple"]):DM D)=pure (.bl true):=mC (t := "tuple") (fun _=>rfl) (by decide)
 have ln:(rd (gG [nT l]):DM D)=pure (.int (l.length:Int)):=by simp[nT]
 simp[qC,jO,a,ln,aW,bz]
 show (bY (bf _ _ _ (l.map nD) _ _)>>=_)=_
 rw[Ho (fun _=>true) (fun _=>.bl true) (by simpa using Nat.le_trans hl (by decide)) (fun _ _=>rfl) (fun d hd _=>?_) (k':=fun l=>rd (pW [.lst l])) (fun _=>rfl)]
 ·have:((l.map nD).filter (fun _=>true)).map (fun _=>D.bl true)=(l.map fun _=>true).map D.bl:=by
   rw[List.filter_eq_self.mpr (fun _ _=>rfl),List.map_map,List.map_map];rfl
  have q:(l.map fun _=>true).all id=true:=by rw[List.all_eq_true];intro x hx;obtain⟨_,_,rfl⟩:=List.mem_map.mp hx;rfl
  rw[this,yX,q]
 ·obtain⟨n,_,rfl⟩:=List.mem_map.mp hd
  have:=tL n
  unfold nD at this ⊢
  simp[this]
noncomputable def qJ(l:List Nat):Prop:=1≤l.length∧l.length≤25∧0<l.sum
theorem yp{l:List Nat}(h1:1≤l.length)(h2:l.length≤25):qD [nT l]=pure (.bl (decide (0<l.sum))):=by
 have a:(rd (fK [nT l,.ty "tuple"]):DM D)=pure (.bl true):=mC (t := "tuple") (fun _=>rfl) (by decide)
 have ln:(rd (gG [nT l]):DM D)=pure (.int (l.length:Int)):=by simp[nT]
 have e1:decide ((1:Int)≤(l.length:Int))=true:=decide_eq_true (by omega)
 have e2:decide ((l.length:Int)≤25)=true:=decide_eq_true (by omega)
 simp[qD,su,a,ln,e1,e2,xG (l:=l) (by omega),uM]
theorem iY{l:List Nat}(h:qJ l):qH [nT l]=pure .non:=by
 simp[qH,dH,yp h.1 h.2.1,h.2.2]
theorem qx:∀ {l:List Nat}{n:Nat},n∈l->n≤l.sum
 |a::l,n,h=>by
   rw[List.sum_cons]
   rcases List.mem_cons.mp h with rfl | h
   ·omega
   ·have:=qx h;omega
theorem Gy(a:Nat):(rd (vI [nD a]):DM D)=pure (nD a):=by unfold nD;rw[HN,if_neg (by omega)]
noncomputable def iI:=aF 2 3 mR
noncomputable def uJ:=aF 1 4 jh
noncomputable def uI:=aF 2 2 eG
theorem bL{p:Nat}{M:Mo}{far:Int}(h:cO p M)(h0:0<far)(h1:far<2^64):Rn (iI [.ref p,.int far]) M fun d M'=>∃t:Nat,(t:Int)<far∧d=nD t∧cO p M'∧Sb p M M':=by
 obtain⟨v,e⟩:=h
 have hp:=(List.getElem?_eq_some_iff.mp e).1
 have ix:fu (.ref p) (.int 0) M=some (nD v):=yx (i:=0) e rfl
 have m1:(rd (gH (nD v) (.int far)):DM D)=pure (.int ((v:Int)%far)):=pJ h0
 have m2:(rd (jq (nD v) (.int far)):DM D)=pure (.int ((v:Int) / far)):=za (uP h0 (Nat.lt_of_lt_of_le (by omega:far.natAbs<2^64) (by decide +kernel)))
 have st:wU (.ref p) (.int 0) (.int ((v:Int) / far)) M=some (.ok (),M.set p (.lst ([nD v].set 0 (.int ((v:Int) / far))))):=mF (i:=0) e (by simp)
 simp[iI,mR]
 refine Rn.bindRd _ ix ?_
 rw[m1,aD]
 refine Rn.bindRd _ ix ?_
 rw[m2,aD]
 refine Rn.run st ?_
 have a1:=Int.emod_nonneg (v:Int) (Int.ne_of_gt h0)
 have a2:=Int.emod_lt_of_pos (v:Int) h0
 have a3:=Int.ediv_nonneg (a:=(v:Int)) (b:=far) (by omega) (by omega)
 refine Rn.pure ⟨((v:Int)%far).toNat,by omega,by unfold nD;rw[Int.toNat_of_nonneg a1],⟨((v:Int) / far).toNat,?_⟩,Sb.set⟩
 rw[List.getElem?_set_self hp]
 unfold nD
 simp
 omega
theorem El (cs:List Int) (k:Nat):∃ c:Int,uI [.scr cs,nD k]=pure (.int c):=by
 by_cases h:k<cs.length
 ·have e:decide ((k:Int)<(cs.length:Int))=true:=decide_eq_true (by omega)
  have ix:(rd (fu (.scr cs) (.int (k:Int))):DM D)=pure (.int cs[k]):=cu fun M=>by
   show (atI cs (k:Int)).map _=_
   rw[j8 (List.getElem?_eq_getElem h)];rfl
  refine⟨cs[k],?_⟩
  simp[uI,eG,nD,e,ix,h]
 ·have e:decide ((k:Int)<(cs.length:Int))=false:=decide_eq_false (by omega)
  refine⟨0,?_⟩
  simp[uI,eG,nD,e,h]
theorem vd {c:D}{f:aa->DM Fl} (h:∀ (n j:Nat) (z:Option D),j<64->∃ n' m':Nat,f [some c,some (nD n),some (nD j),z]=pure (.nx [some c,some (nD n'),some (nD j),some (nD m')])):∀ (l:List Nat),(∀ j∈l,j<64)->∀ (n:Nat) y z,∃ (n':Nat) (y' z':Option D),forL (gN 2) f (l.map nD) [some c,some (nD n),y,z]=pure (.nx [some c,some (nD n'),y',z'])
 |[],_,n,y,z=>⟨n,y,z,rfl⟩
 |j::l,hl,n,y,z=>by
   obtain⟨n1,m1,e1⟩:=h n j z (hl j (by simp))
   obtain⟨n',y',z',e2⟩:=vd h l (fun k hk=>hl k (by simp[hk])) n1 (some (nD j)) (some (nD m1))
   refine⟨n',y',z',?_⟩
   simp[forL,e1,e2]
theorem Be{c:D}{f:aa->DM Fl}{k:Fl->DM D}{l:List Nat}(hl:∀j∈l,j<64)(n:Nat)(y z:Option D)(h:∀(n j:Nat) (z:Option D),j<64->∃n' m':Nat,f [some c,some (nD n),some (nD j),z]=pure (.nx [some c,some (nD n'),some (nD j),some (nD m')]))(hk:∀(n':Nat) y' z',∃v:Nat,k (.nx [some c,some (nD n'),y',z'])=cG [nD v]):∃v:Nat,(forL (gN 2) f (l.map nD) [some c,some (nD n),y,z]>>=k)=cG [nD v]:=by
 obtain⟨n',y',z',e⟩:=vd h l hl n y z
 obtain⟨v,q⟩:=hk n' y' z'
 exact⟨v,by rw[e,aD,q]⟩
theorem Gu(c:Int):∃v:Nat,uJ [.int c]=cG [nD v]:=by
 have pw:(rd (tZ (.int 10) (.int 18)):DM D)=pure (.int 1000000000000000000):=by rw[Cd (by decide)];rfl
 by_cases h:(1000000000000000000:Int)≤c
 ·refine⟨(c-1000000000000000000).toNat,?_⟩
  have e:(D.int (c-1000000000000000000))=nD (c-1000000000000000000).toNat:=by unfold nD;congr 1;omega
  simp[uJ,jh,pw,h,e]
 ·have rg:jz [.int 64]=some (.fix ((List.range 64).map nD)):=pK (n:=64) (by decide)
  simp[uJ,jh,pw,h,rg,kW]
  refine Be (l:=List.range 64) (by simp) 0 none none (fun n j z hj=>?_) (fun n' y' z'=>⟨n',by simp⟩)
  have p1:(rd (gH (.int c) (.int 2147483629)):DM D)=pure (.int (c%2147483629)):=pJ (by decide)
  have p2:(rd (lq (.int 7919) (nD j)):DM D)=pure (.int (7919*(j:Int))):=mD (uX (by decide))
  have b1:=Int.emod_nonneg c (b:=2147483629) (by decide)
  have b2:=Int.emod_lt_of_pos c (b:=2147483629) (by decide)
  have p3:(rd (lq (.int (c%2147483629+7919*(j:Int)+1)) (.int 48271)):DM D)=pure (.int ((c%2147483629+7919*(j:Int)+1)*48271)):=mD (lY (by decide))
  have p4:∀i:Int,(rd (gH (.int i) (.int 2147483647)):DM D)=pure (.int (i%2147483647)):=fun i=>pJ (by decide)
  simp[p1,p2,p3,p4]
  generalize ((c%2147483629+7919*(j:Int)+1)*48271)=X
  have c1:=Int.emod_nonneg X (b:=2147483647) (by decide)
  have c2:=Int.emod_lt_of_pos X (b:=2147483647) (by decide)
  generalize X%2147483647=Y at c1 c2
  have p5:(rd (lq (.int Y) (.int Y)):DM D)=pure (.int (Y*Y)):=mD (lY (by omega))
  have p6:(rd (lq (.int 69621) (nD j)):DM D)=pure (.int (69621*(j:Int))):=mD (uX (by decide))
  have p7:∀i:Int,(rd (gH (.int i) (.int 2147483587)):DM D)=pure (.int (i%2147483587)):=fun i=>pJ (by decide)
  have p8:(rd (lq (nD n) (.int 2147483587)):DM D)=pure (.int ((n:Int)*2147483587)):=mD (lY (by decide))
  simp[p5,p6,p7,p8]
  generalize (Y*Y+69621*(j:Int)+7)=Z
  have d1:=Int.emod_nonneg Z (b:=2147483587) (by decide)
  generalize Z%2147483587=W at d1
  refine⟨n*2147483587+W.toNat,W.toNat,?_⟩
  have e1:D.int ((n:Int)*2147483587+W)=nD (n*2147483587+W.toNat):=by unfold nD;congr 1;omega
  have e2:D.int W=nD W.toNat:=by unfold nD;congr 1;omega
  rw[e1,e2]
theorem aM{f g:aa->DM Fl}{δ:aa}{M:Mo}{Q:Fl->Mo->Prop}(h:∀K:Fl->DM Fl,(∀δ',K (.nx δ')=g δ')->Rn (f δ>>=K) M Q):Rn (jH f g δ) M Q:=by
 have:=h (fun r=>match r with | .nx δ'=>g δ' | r=>Pure.pure r) (fun _=>rfl)
 exact this
theorem Dr{n t:Nat}{M:Mo}{l:List D}(h:M[n]?=some (.lst l))(ht:t<l.length)(hl:l.length≤1000000):Bc (.ref n) [nD t] M=some (.ok l[t],M.set n (.lst (l.eraseIdx t))):=by
 unfold nD
 delta Bc
 dsimp only
 rw[h]
 dsimp only
 rw[yu ht]
 dsimp only
 rw[List.getElem?_eq_getElem ht]
 dsimp only
 rw[if_pos (decide_eq_true ⟨by omega,by omega⟩)]
theorem oY:∀ (L:List D) (t:Nat) (ht:t<L.length),(L[t]::L.eraseIdx t).Perm L
 |a::L,0,_=>.refl _
 |a::L,t+1,ht=>by
   have ht':t<L.length:=by simpa using ht
   have ih:=oY L t ht'
   show (L[t]::a::L.eraseIdx t).Perm (a::L)
   exact (List.Perm.swap a L[t] _).trans (ih.cons a)
noncomputable def xn:=aF 2 3 (j9 iI)
noncomputable def IV(p q:Nat)(M0:Mo)(ds:List D)(rest:aa)(i:Nat)(δ:aa)(l:List D)(M:Mo):Prop:=(∃z,δ=z::rest)∧cO p M∧(Sb p M0 M)∧∃L,M[q]?=some (.lst L)∧(l++L).Perm ds∧l.length=i
theorem FW {p:Nat}{M:Mo}{ds:List D} (h:cO p M) (hd:ds.length≤1000):Rn (xn [.ref p,.lst ds]) M fun d M'=>∃ l,d=.lst l∧l.Perm ds∧cO p M'∧Sb p M M':=by
 have ls:∀M,jx [.lst ds] M=some ds:=fun M=>rfl
 have al:(rd (Bq (.lst ds)):DM Itn)=pure (.fix ds):=rfl
 unfold xn j9 gP;dsimp only
 refine Rn.call rfl ?_
 refine aM fun K hK=>?_
 simp
 refine Rn.bindRd _ (ls M) ?_
 refine Rn.cG (by omega) ?_
 rw[hK];clear hK K
 simp[al,aW,bz]
 have hp:=h.lt
 refine Rn.bind (Ef (qU (IV p M.length M ds [some (.ref M.length),some (.ref p)]) ds 0 _ _ _ ⟨⟨none,rfl⟩,h.sb (q:=M.length) Sb.push (by omega),Sb.push,ds,by simp,by simp,rfl⟩ (fun j d δ l M1 hj hI=>?_))) fun pr M2 hI=>?_
 ·obtain⟨⟨z,rfl⟩,hp1,sb1,L,hL,pm,hl⟩:=hI
  have hj':=(List.getElem?_eq_some_iff.mp hj).1
  have ln:=pm.length_eq
  rw[List.length_append] at ln
  have lt:l.length<sizeLine:=by show _<2^24;omega
  simp[bO]
  refine Rn.bindRd L (by simp only[aN,hL]) ?_
  refine Rn.bindRd (.int (L.length:Int)) (by show (aN (.ref M.length) M1).map _=_;simp only[aN,hL];rfl) ?_
  refine Rn.bind (bL (far:=(L.length:Int)) hp1 (by omega) (by omega)) fun d2 M3 ⟨t,g,e,hp3,s3⟩=>?_
  subst e
  have ht:t<L.length:=by omega
  have hL3:=s3.at (q:=M.length) (by omega) hL
  refine Rn.run (Dr hL3 ht (by omega)) ?_
  simp only[lt,if_true]
  refine Rn.pure ⟨⟨_,rfl⟩,hp3.sb (q:=M.length) Sb.set (by omega),Sb.new (p:=p) (.inr (sb1.trans s3).le) (Nat.le_refl _) Sb.set (sb1.trans s3),L.eraseIdx t,List.getElem?_set_self (List.getElem?_eq_some_iff.mp hL3).1,?_,by simp[hl]⟩
  refine List.Perm.trans ?_ pm
  rw[List.append_assoc]
  exact List.Perm.append_left _ (oY L t ht)
 ·obtain⟨_,hp2,sb2,L,hL,pm,hl⟩:=hI
  have ln:=pm.length_eq
  rw[List.length_append] at ln
  have L0:L=[]:=by
   rw[←List.length_eq_zero_iff];omega
  subst L0
  exact Rn.pure ⟨_,rfl,_,rfl,by simpa using pm,hp2,sb2⟩
noncomputable def xq:=aF 2 3 (oK rK)
theorem Gq{a b:Nat}(hb:0<b)(h:b<2^1000):xq [nD a,nD b]=pure (pT (pl a b)):=by
 have hg:0<Nat.gcd a b:=Nat.gcd_pos_of_pos_right _ hb
 have h3:Nat.gcd a b≤b:=Nat.gcd_le_right _ hb
 have e1:(rd (jq (nD a) (nD (Nat.gcd a b))):DM D)=pure (nD (a / Nat.gcd a b)):=uh hg (Nat.lt_of_le_of_lt h3 h)
 have e2:(rd (jq (nD b) (nD (Nat.gcd a b))):DM D)=pure (nD (b / Nat.gcd a b)):=uh hg (Nat.lt_of_le_of_lt h3 h)
 have e4:=pI (l:=[nD (a / Nat.gcd a b),nD (b / Nat.gcd a b)]) (by simp)
 simp[xq,oK,Gy,Ez,e1,e2,e4,pT,pl,nT]
structure WK(R:List (List Nat))(W:Nat):Prop where
 n1:1≤R.length
 n25:R.length≤25
 row:∀r∈R,r.length=R.length
 sum:∀r∈R,r.sum=W
 w1:1≤W
theorem WK.head{R:List (List Nat)}{W:Nat}(h:WK R W):gr R 0∈R:=gr_mem (by have:=h.n1;omega)
noncomputable def xf:=aF 2 2 (oH qC)
noncomputable def xg:=aF 1 2 (ig xf)
theorem Cw{l:List Nat}{n:Nat}(h:l.length=n)(hl:n≤1000):qC [nT l,nD n]=pure (.bl true):=by
 subst h
 exact xG hl
theorem rT(n:Nat):(rd (pW [.lst (List.replicate n (.bl true))]):DM D)=pure (.bl true):=by
 have:=yX (List.replicate n true)
 rw[List.map_replicate] at this
 rw[this];simp
theorem qW{α:Type}(l:List α)(d:D):(l.map fun _=>d)=List.replicate l.length d:=List.map_const' ..
theorem Ej{R:List (List Nat)}{W:Nat}(h:WK R W):xf [nM R,nD R.length]=pure (.bl true):=by
 have:=h.n25
 simp[xf,oH,zc,cB,iV,yZ,aW,bz]
 rw[oN nT (fun _=>.bl true) (by omega) (fun r hr=>by simp[Cw (h.row r hr) (by omega)])]
 rw[aD,qW,rT]
theorem Ep{R:List (List Nat)}{W:Nat}(h:WK R W):xg [nM R]=pure (.bl true):=by
 have h1:=h.n1
 have h2:=h.n25
 have e1:(rd (o8 (.int 1) (nD R.length)):DM D)=pure (.bl true):=by rw[show D.int 1=nD 1 from rfl,lE,decide_eq_true h1]
 have e2:(rd (o8 (nD R.length) (.int 25)):DM D)=pure (.bl true):=by rw[show D.int 25=nD 25 from rfl,lE,decide_eq_true h2]
 have e3:(rd (Bx (nD W) (.int 1)):DM D)=pure (.bl true):=by rw[show D.int 1=nD 1 from rfl,GD,decide_eq_true h.w1]
 have e4:∀r∈R,(rd (dM (nD r.sum) (nD W)):DM D)=pure (.bl true):=fun r hr=>by rw[cU,h.sum r hr];simp
 simp[xg,ig,zc,cB,e1,e2,Ej h,zf (R:=R) (by omega),h.sum _ h.head]
 simp[e3,yZ,aW,bz]
 rw[oN nT (fun _=>.bl true) (by omega) (fun r hr=>by simp[e4 r hr])]
 rw[aD,qW,rT]
noncomputable def aQ(R:List (List Nat))(W:Nat):D:=.obj "Walk" ["rows", "whole"] [nM R,nD W]
noncomputable def Fin:=aF 2 2 (ie xg)
theorem vp{M:Mo}{ns:List Str}{vs:List D}{f:Str}{d:D}(hl:ns.length=vs.length)(hz:ns.length<1000):rH "Walk" f (.ref M.length) d (M++[.ins "Walk" ns vs])=some (.ok (),M++[.ins "Walk" (putN f ns) (gM f d ns vs)]):=by
 unfold rH
 simp[hl]
 omega
theorem Fd{R:List (List Nat)}{W:Nat}(h:WK R W)(M:Mo):Fin (.ref M.length::[nM R]) (M++[.ins "Walk" [] []])=some (.ok .non,M++[.ins "Walk" ["rows", "whole"] [nM R,nD W]]):=by
 have h1:=h.n1
 have go:Rn (Fin (.ref M.length::[nM R])) (M++[.ins "Walk" [] []]) fun d M'=>d=.non∧M'=M++[.ins "Walk" ["rows", "whole"] [nM R,nD W]]:=by
  simp[Fin,ie,Ep h,zf (R:=R) (by omega)]
  refine Rn.run (vp rfl (by decide)) ?_
  rw[h.sum _ h.head]
  refine Rn.run (vp rfl (by decide)) ?_
  exact Rn.pure ⟨rfl,rfl⟩
 obtain⟨d,M',e,rfl,rfl⟩:=go
 exact e
open Classical in
noncomputable def rJ(ds:List D):DM D:=if h:∃p:List (List Nat)×Nat,WK p.1 p.2∧ds=[nM p.1] then pure (aQ (choose h).1 (choose h).2) else stuck
theorem Hj{R:List (List Nat)}{W:Nat}(h:WK R W):rJ [nM R]=pure (aQ R W):=by
 have q:∃p:List (List Nat)×Nat,WK p.1 p.2∧[nM R]=[nM p.1]:=⟨(R,W),h,rfl⟩
 unfold rJ
 rw[dif_pos q]
 obtain⟨a,b⟩:=Classical.choose_spec q
 generalize Classical.choose q=p at a b
 have e:R=p.1:=Gb (by simpa using b)
 have w:W=p.2:=by
  have:=h.sum _ h.head
  rw[←this,e]
  exact a.sum _ a.head
 rw[←e,←w]
theorem Hk:∀ds M r',rJ ds M=some r'->Ei "Walk" Fin ds M r':=by
 intro ds M r' e
 unfold rJ at e
 split at e
 ·rename_i q
  obtain⟨a,b⟩:=Classical.choose_spec q
  generalize Classical.choose q=p at a b e
  subst b
  cases e
  refine .inl ⟨["rows", "whole"],[nM p.1,nD p.2],Fd a M,fun d hd=>?_,rfl⟩
  rcases List.mem_cons.mp hd with rfl | hd
  ·exact .inl (by simp)
  ·exact .inr ⟨p.2,by simpa[nD] using hd⟩
 ·cases e
theorem bW(R:List (List Nat))(W:Nat):(rd (wg "Walk" "rows" (aQ R W)):DM D)=pure (nM R):=cu fun M=>by simp[wg,aQ]
theorem gF{m:Str}(h:(["rows", "whole"]:List Str).contains m=false)(R:List (List Nat))(W:Nat):(rd (qb "Walk" m (aQ R W)):DM Unit)=pure ():=cu fun M=>by
 unfold qb aQ
 dsimp only
 rw[if_pos ⟨rfl,h⟩]
noncomputable def Frs:=aF 1 1 (cQ mL)
theorem G5{k:Nat}(h:k≤100):Frs [nD k]=pure .non:=by
 have e1:(rd (o8 (.int 0) (nD k)):DM D)=pure (.bl true):=by rw[show D.int 0=nD 0 from rfl,lE,decide_eq_true (Nat.zero_le _)]
 have e2:(rd (o8 (nD k) (.int 100)):DM D)=pure (.bl true):=by rw[show D.int 100=nD 100 from rfl,lE,decide_eq_true h]
 simp[Frs,cQ,tL,e1,e2]
noncomputable def unit(n x:Nat):List Nat:=(List.range n).map fun i=>if i=x then 1 else 0
noncomputable def rN:=aF 2 2 sy
theorem o6{n x:Nat}(h:n≤1000):rN [nD x,nD n]=pure (nT (unit n x)):=by
 simp[rN,sy,iW (n:=n) (by omega),aW,bz]
 rw[oN nD (fun i=>nD (if i=x then 1 else 0)) (by simp;omega) (fun i hi=>by
  simp[cU]
  by_cases e:i=x<;>simp[e,nD])]
 simp[unit,nT,Function.comp_def]
noncomputable def dot(l:List Nat)(R:List (List Nat))(y:Nat):Nat:=(List.zipWith (fun w r=>w*ga r y) l R).sum
noncomputable def stp(R:List (List Nat))(l:List Nat):List Nat:=(List.range R.length).map (dot l R)
noncomputable def fQ{α:Type}(f:α->α):Nat->α->α
 |0,a=>a
 |n+1,a=>fQ f n (f a)
theorem ju {α:Type} (f:α->α):∀ (n:Nat) (a:α),fQ f (n + 1) a=f (fQ f n a)
 |0,a=>rfl
 |n+1,a=>by
   show fQ f (n+1) (f a)=_
   rw[ju f n (f a)];rfl
theorem WK.le{R:List (List Nat)}{W:Nat}(h:WK R W){r:List Nat}(hr:r∈R){n:Nat}(hn:n∈r):n≤W:=by
 rw[←h.sum r hr]
 exact qx hn
theorem WK.at_le{R:List (List Nat)}{W:Nat}(h:WK R W){r:List Nat}(hr:r∈R)(y:Nat):ga r y≤W:=by
 by_cases hy:y<r.length
 ·exact h.le hr (Ey hy)
 ·rw[ym (by omega)];exact Nat.zero_le _
noncomputable def xu:=aF 2 2 qL
theorem Ga(f:Nat->List Nat->Nat)(l:List Nat)(R:List (List Nat)):List.zipWith (fun w r=>nD (f w r)) l R=(List.zipWith f l R).map nD:=by rw[List.map_zipWith]
theorem G7 {R:List (List Nat)}{W:Nat}{l:List Nat} (h:WK R W) (hW:W<2 ^ 60) (hl:l.length=R.length):xu [nM R,nT l]=pure (nT (stp R l)):=by
 have h2:=h.n25
 simp[xu,qL,gQ,iW (n:=l.length) (by omega),aW,bz]
 rw[oN nD (fun y=>nD (dot l R y)) (by simp;omega) (fun y hy=>?_)]
 ·simp[stp,hl,nT,Function.comp_def]
 ·have hy':y<R.length:=by rw[←hl];exact List.mem_range.mp hy
  simp[Dw]
  rw[Eo nD nT (fun w r=>nD (w*ga r y)) (by omega) (fun w hw r hr=>by
   have:=h.at_le hr y
   simp[Ca (l:=r) (i:=y) (by rw[h.row r hr];exact hy'),GR (a:=w) (b:=ga r y) (by omega)])]
  rw[Ga,aD,GZ]
  rfl
theorem DR(R:List (List Nat))(l:List Nat):(stp R l).length=R.length:=by simp[stp]
theorem Du{m:DM D}{v:D}(h:∀M,Rn m M fun d M'=>d=v∧M'=M):m=pure v:=by
 funext M
 obtain⟨d,M',e,rfl,rfl⟩:=h M
 exact e
theorem IW:∀l:List Nat,S l.length (ga l)=l.sum:=fun l=>by
 rw[←oA]
 congr 1
 apply List.ext_getElem?
 intro k
 by_cases hk:k<l.length
 ·rw[List.getElem?_map,List.getElem?_range hk,List.getElem?_eq_getElem hk,Option.map_some,Bw hk]
 ·rw[List.getElem?_eq_none (by simp;omega),List.getElem?_eq_none (by omega)]
theorem xF (c:Nat) (f:Nat->Nat):∀ n:Nat,S n (fun y=>c * f y)=c * S n f
 |0=>rfl
 |n+1=>by
   show S n (fun y=>c*f y)+c*f n=c*(S n f+f n)
   rw[xF c f n,Nat.mul_add]
theorem uQ {n W:Nat}:∀ (l:List Nat) (R:List (List Nat)),l.length=R.length->(∀ r∈R,r.length=n)->(∀ r∈R,r.sum=W)->S n (dot l R)=l.sum * W
 |[],[],_,_,_=>by
   rw[rP (f:=dot [] []) fun _ _=>rfl];simp
 | w::l,r::R,hl,h1,h2=>by
   have e:dot (w::l) (r::R)=fun y=>w*ga r y+dot l R y:=by
    funext y
    show (w*ga r y::List.zipWith (fun w r=>w*ga r y) l R).sum=_
    rw[List.sum_cons];rfl
   rw[e,Bp,xF,uQ l R (by simpa using hl) (fun r hr=>h1 r (by simp[hr])) (fun r hr=>h2 r (by simp[hr])),List.sum_cons,Nat.add_mul]
   have:=IW r
   rw[h1 r (by simp),h2 r (by simp)] at this
   rw[this]
theorem DX{R:List (List Nat)}{W:Nat}{l:List Nat}(h:WK R W)(hl:l.length=R.length):(stp R l).sum=l.sum*W:=by
 unfold stp
 rw[oA]
 exact uQ l R hl h.row h.sum
theorem qj{R:List (List Nat)}{l:List Nat}(hl:l.length=R.length):∀k,(fQ (stp R) k l).length=R.length
 |0=>hl
 |k+1=>by rw[ju,DR]
theorem uV {R:List (List Nat)}{W:Nat}{l:List Nat} (h:WK R W) (hl:l.length=R.length):∀ k,(fQ (stp R) k l).sum=l.sum * W ^ k
 |0=>by simp[fQ]
 |k+1=>by
   rw[ju,DX h (qj hl k),uV h hl k,Nat.pow_succ,Nat.mul_assoc]
theorem dm(n x:Nat):(unit n x).length=n:=by simp[unit]
theorem uy{n x:Nat}(h:x<n):(unit n x).sum=1:=by
 unfold unit
 rw[oA]
 have e:S n (fun i=>if i=x then 1 else 0)=S n (up (fun _=>0) x 1):=pU fun i _=>rfl
 have:S n (up (fun _=>0) x 1)+0=S n (fun _=>0)+1:=Eg (f:=fun _=>0) h
 rw[rP (f:=fun _=>0) fun _ _=>rfl] at this
 omega
theorem n6{R:List (List Nat)}{W x:Nat}(h:WK R W)(hx:x<R.length):qJ (unit R.length x):=⟨by rw[dm];exact h.n1,by rw[dm];exact h.n25,by rw[uy hx];decide⟩
noncomputable def cN:=aF 3 4 (bx qH Frs xu)
noncomputable def JD(M0:Mo)(w:D)(R:List (List Nat))(l:List Nat)(k:Nat)(i:Nat)(δ:aa)(M:Mo):Prop:=(∃z,δ=[some w,some (nT (fQ (stp R) i l)),some (nD k),z])∧M=M0
theorem rQ{R:List (List Nat)}{W:Nat}{l:List Nat}{k:Nat}(h:WK R W)(hW:W<2^60)(hl:l.length=R.length)(hL:qJ l)(hk:k≤100):cN [aQ R W,nT l,nD k]=pure (nT (fQ (stp R) k l)):=Du fun M=>by
 unfold cN bx gO;dsimp only
 refine Rn.call rfl ?_
 simp[iY hL,gQ,bW,cB,iV,hl,G5 hk,iW (n:=k) (by omega),kW]
 refine Rn.bind (cZ (JD M (aQ R W) R l k) _ 0 _ _ ⟨⟨none,rfl⟩,rfl⟩ (fun j d δ M1 hj hI=>?_)) (fun r M1 hI=>?_)
 ·obtain⟨⟨z,rfl⟩,rfl⟩:=hI
  rw[Nat.zero_add]
  simp[bW,G7 h hW (qj hl j)]
  exact Rn.pure ⟨_,rfl,⟨_,by rw[ju]⟩,rfl⟩
 ·obtain⟨δ',rfl,⟨z,rfl⟩,rfl⟩:=hI
  simp
  exact Rn.pure ⟨_,rfl,rfl,rfl⟩
noncomputable def Gr(R:List (List Nat))(k:Nat):List (List Nat):=(List.range R.length).map fun x=>fQ (stp R) k (unit R.length x)
noncomputable def qG:=aF 2 3 (gm rN cN)
theorem yV{W k s:Nat}(hW:W≤12)(hk:k≤101)(hs:s<2^60):s*W^k<2^1000:=by
 have h1:W^k≤2^404:=Nat.le_trans (Nat.pow_le_pow_left (show W≤2^4 by omega) k) (by rw[←Nat.pow_mul];exact Nat.pow_le_pow_right (by decide) (by omega))
 have h2:s*W^k≤2^60*2^404:=Nat.mul_le_mul (by omega) h1
 refine Nat.lt_of_le_of_lt h2 ?_
 rw[←Nat.pow_add]
 exact Nat.pow_lt_pow_right (by decide) (by decide)
theorem Cy {α:Type}{fe:aa->DM D}{x:Option D}{rest:aa}{as:List α} (enc:α->D) (e:α->D) (hl:as.length≤1000000) (h2:∀ a∈as,fe (some (enc a)::rest)=Pure.pure (e a)) :
  fW .val (gN 0) (fun _=>Pure.pure true) fe (.fix (as.map enc)) (x::rest)=(pure (.lst (as.map e)):DM D):=by
 funext M
 unfold fW
 have hf:fj (gN 0) (fun _=>Pure.pure true) fe (.fix (as.map enc)) (x::rest) M=some (.ok (),M):=by
  unfold fj
  cases as with
  |nil=>rfl
  |cons a as=>
    show (bY (gN 0 (enc a) (x::rest))>>=_) M=_
    show DM.bind _ _ M=_
    have:=h2 a (by simp)
    show ((fe (some (enc a)::rest)>>=fun _=>pure ()):DM Unit) M=_
    rw[this]
    rfl
 rw[hf]
 show (bY (bf (gN 0) (fun _=>Pure.pure true) (bO fe) (as.map enc) (x::rest) [])>>=fun p=>Out.run .val p.2) M=_
 rw[oN enc e hl h2]
 rfl
theorem uC{α:Type}{fe:aa->DM D}{x:Option D}{rest:aa}{a:α}{as:List α}{c:Str}(enc:α->D)(h2:fe (some (enc a)::rest)=raise c) :
  fW .val (gN 0) (fun _=>Pure.pure true) fe (.fix ((a::as).map enc)) (x::rest)=(raise c:DM D):=by
 funext M
 unfold fW
 have hf:fj (gN 0) (fun _=>Pure.pure true) fe (.fix ((a::as).map enc)) (x::rest) M=some (.exc c,M):=by
  unfold fj
  show ((fe (some (enc a)::rest)>>=fun _=>pure ()):DM Unit) M=_
  rw[h2]
  rfl
 rw[hf]
 rfl
theorem Gv{R:List (List Nat)}{W:Nat}{k:Nat}(h:WK R W)(hW:W<2^60)(hk:k≤100):qG [aQ R W,nD k]=pure (nM (Gr R k)):=by
 have h2:=h.n25
 simp[qG,gm,bW,cB,iW (n:=R.length) (by omega),aW,bz]
 rw[Cy nD (fun x=>nT (fQ (stp R) k (unit R.length x))) (by simp;omega) (fun x hx=>by
  have hx':=List.mem_range.mp hx
  simp[gF (m := "after") (by decide),o6 (n:=R.length) (x:=x) (by omega),rQ h hW (dm _ _) (n6 h hx') hk])]
 simp[Gr,nM,Function.comp_def]
theorem fZ{α β:Type}(c:Str)(f:α->DM β):((raise c:DM α)>>=f)=raise c:=rfl
theorem vq {l:List Nat}{i v:Nat} (h:i<l.length):(l.set i v).sum + ga l i=l.sum + v:=by
 induction l generalizing i with
 |nil=>simp at h
 | cons a l ih=>
   cases i with
   |zero=>simp[ga];omega
   |succ i=>
     have:=ih (i:=i) (by simpa using h)
     rw[List.set_cons_succ,List.sum_cons,List.sum_cons]
     have e:ga (a::l) (i+1)=ga l i:=rfl
     rw[e];omega
theorem G8{l:List Nat}{i j v:Nat}(h:i≠j):ga (l.set i v) j=ga l j:=by
 unfold ga
 rw[List.getD_eq_getElem?_getD,List.getD_eq_getElem?_getD,List.getElem?_set_ne h]
theorem G4(n i:Nat):ga (List.replicate n 0) i=0:=by
 by_cases h:i<n
 ·rw[Bw (by simpa using h)];simp
 ·exact ym (by simp;omega)
noncomputable def xr:=aF 4 9 (oG xn iI)
structure RowSt(M0:Mo)(p w W:Nat)(todo:List Nat)(left:Nat)(f:List Nat)(M:Mo):Prop where
 pot:cO p M
 sb:Sb p M0 M
 at_:M[M0.length]?=some (.lst (f.map nD))
 len:f.length=w
 sum:f.sum+left=W
 zero:∀i∈todo,ga f i=0
noncomputable def Hm(M0:Mo)(p w W:Nat)(som:D)(o:List Nat)(rest:List Nat)(i:Nat)(δ:aa)(M:Mo):Prop:=∃(left:Nat) (f:List Nat) (z1 z2:Option D),δ=[some (.ref p),some (nD w),some (nD W),some som,some (.ref M0.length),some (nD left),some (.lst (o.map nD)),z1,z2]∧RowSt M0 p w W (o.getD 0 0::rest.drop i) left f M
theorem G6 {p w W:Nat}{M:Mo}{some':List Nat} (hp:cO p M) (hw:w≤25) (hW:W<2 ^ 60) (h0:some'≠[]) (hn:some'.Nodup) (hlt:∀ i∈some',i<w) (sl:some'.length≤100) :
  Rn (xr [.ref p,nD w,nD W,.lst (some'.map nD)]) M fun d M'=>∃r:List Nat,d=nT r∧r.length=w∧r.sum=W∧cO p M'∧Sb p M M':=by
 have hpl:=hp.lt
 unfold xr oG
 refine Rn.call rfl ?_
 have m0:dR [.int 0]=pure (.lst [.int 0]):=cW (by simp)
 refine aM fun K hK=>?_
 simp[m0]
 refine Ar (by omega) ?_
 have hp1:cO p (M++[.lst ((List.replicate w 0).map nD)]):=hp.sb (q:=M.length) Sb.push (by omega)
 refine Rn.bind (FW hp1 (by simp;omega)) fun d M2 ⟨ml,ed,pm,hp2,s2⟩=>?_
 subst ed
 obtain ⟨o,ho,el⟩:∃ o:List Nat,o.Perm some'∧ml=o.map nD:=by
  let u:D->Nat:=fun d=>match d with | .int i=>i.toNat | _=>0
  have hu:∀n:Nat,u (nD n)=n:=fun n=>by simp[u,nD]
  refine⟨ml.map u,?_,?_⟩
  ·have:=pm.map u
   rw[List.map_map] at this
   have e:some'.map (u ∘ nD)=some':=by
    conv=>rhs;rw[←List.map_id some']
    exact List.map_congr_left fun n _=>hu n
   rwa [e] at this
  ·rw[List.map_map]
   conv=>lhs;rw[←List.map_id ml]
   refine List.map_congr_left fun d hd=>?_
   obtain⟨n,_,rfl⟩:=List.mem_map.mp (pm.mem_iff.mp hd)
   show nD n=nD (u (nD n))
   rw[hu]
 subst el
 rw[hK];clear hK K
 have ol:o.length=some'.length:=ho.length_eq
 have on:o.Nodup:=ho.nodup_iff.mpr hn
 have olt:∀i∈o,i<w:=fun i hi=>hlt i (ho.mem_iff.mp hi)
 obtain⟨a,rest,rfl⟩:∃a rest,o=a::rest:=by
  cases o with
  |nil=>exact absurd (List.length_eq_zero_iff.mp (by simpa using ol.symm)) h0
  |cons a rest=>exact⟨a,rest,rfl⟩
 have st0:RowSt M p w W (a::rest) W (List.replicate w 0) M2:=by
  refine⟨hp2,⟨Nat.le_trans (by simp) s2.le,fun q hq hl=>?_⟩,?_,by simp,by simp,fun i _=>G4 w i⟩
  ·rw[s2.keep q hq (by simp;omega),List.getElem?_append_left hl]
  ·refine s2.at (by omega) ?_
   rw[List.getElem?_concat_length]
 -- the others
 refine aM fun K hK=>?_
 have sl1:(rd (zx (some 1) none (.lst ((a::rest).map nD))):DM D)=pure (.lst (rest.map nD)):=cu fun M=>by
  simp only[zx,aN,Option.map_some]
  unfold cutD
  rw[HT.sIx_none,show (some (1:Int))=some ((1:Nat):Int) from rfl,HT.sIx_nat]
  simp
  exact List.take_of_length_le (by simp)
 have as1:Ip (.int 1)=pure (some 1):=rfl
 simp only[cH,bj,aL,as1,sl1,ug,kW]
 refine Rn.bind (cZ (Hm M p w W (.lst (some'.map nD)) (a::rest) rest) _ 0 _ _ ⟨W,List.replicate w 0,none,none,rfl,by simpa using st0⟩ (fun j d δ M3 hj hI=>?_)) (fun r M3 hI=>?_)
 ·obtain ⟨left,f,z1,z2,rfl,st⟩:=hI
  rw[Nat.zero_add] at st ⊢
  obtain⟨y,hy,ed⟩:∃y,rest[j]?=some y∧d=nD y:=by
   rw[List.getElem?_map] at hj
   obtain⟨q,e1,e2⟩:=Option.map_eq_some_iff.mp hj
   exact⟨q,e1,e2.symm⟩
  subst ed
  have hjl:=(List.getElem?_eq_some_iff.mp hy).1
  have dj:rest.drop j=y::rest.drop (j+1):=by
   rw[List.drop_eq_getElem_cons hjl,(List.getElem?_eq_some_iff.mp hy).2]
  have yw:y<w:=olt y (by simp[List.mem_of_getElem? hy])
  have yz:ga f y=0:=st.zero y (by rw[dj];simp)
  have leW:left≤W:=by have:=st.sum;omega
  rw[ul,aD]
  refine aM fun K hK=>?_
  simp only[eE,cH,bj,aL,vf]
  refine Rn.bind (bL (far:=((left+1:Nat):Int)) st.pot (by omega) (by omega)) fun d4 M4 ⟨t4,g4,e4,hp4,s4⟩=>?_
  subst e4
  have ml3:dR [.int 0,nD left,nD t4]=pure (.lst ([0,left,t4].map nD)):=cW (by simp)
  simp only[aD,ml3]
  refine Rn.bind (bL (far:=3) hp4 (by decide) (by decide)) fun d5 M5 ⟨t5,g5,e5,hp5,s5⟩=>?_
  subst e5
  have h5:t5<[0,left,t4].length:=by simp;omega
  have ix:(rd (fu (.lst ([0,left,t4].map nD)) (nD t5)):DM D)=pure (nD ([0,left,t4][t5])):=rE (by rw[List.getElem?_map,List.getElem?_eq_getElem h5];rfl)
  have ple:[0,left,t4][t5]≤left:=by
   have:=List.getElem_mem h5
   generalize [0,left,t4][t5]=x at this
   simp at this
   omega
  rw[ix]
  generalize [0,left,t4][t5]=part at ple
  rw[aD,hK];clear hK K
  have mk2:∀x y:D,tV [x,y]=pure (.tup [x,y]):=fun x y=>pI (by simp)
  simp only[eE,cH,bj,aL,GX ple,mk2,Jm,List.length_cons,List.length_nil,if_true,HR,HS,ul]
  have at5:M5[M.length]?=some (.lst (f.map nD)):=s5.at (by omega) (s4.at (by omega) st.at_)
  have sr:=mF (v:=nD part) at5 (i:=y) (by rw[List.length_map,st.len];exact yw)
  rw[←List.map_set] at sr
  refine Rn.run sr ?_
  refine Rn.pure ⟨_,rfl,left-part,f.set y part,_,_,rfl,?_⟩
  have ss:=vq (l:=f) (i:=y) (v:=part) (by rw[st.len];exact yw)
  refine⟨hp5.sb (q:=M.length) Sb.set (by omega),Sb.new (p:=p) (.inr (st.sb.trans (s4.trans s5)).le) (Nat.le_refl _) Sb.set (st.sb.trans (s4.trans s5)),List.getElem?_set_self (List.getElem?_eq_some_iff.mp at5).1,by rw[List.length_set];exact st.len,by have:=st.sum;omega,fun i hi=>?_⟩
  have iy:y≠i:=fun z=>by
   subst z
   have on':=List.nodup_cons.mp on
   rcases List.mem_cons.mp hi with e | hi
   ·have e:y=a:=by simpa using e
    exact on'.1 (e ▸ List.mem_of_getElem? hy)
   ·have dn:(rest.drop j).Nodup:=on'.2.sublist (List.drop_sublist j rest)
    rw[dj] at dn
    exact (List.nodup_cons.mp dn).1 hi
  rw[G8 iy]
  refine st.zero i ?_
  rcases List.mem_cons.mp hi with e | hi
  ·rw[e];simp
  ·rw[dj];simp[hi]
 ·obtain⟨δ',rfl,left,f,z1,z2,rfl,st⟩:=hI
  rw[hK];clear hK K
  have aw:a<w:=olt a (by simp)
  have az:ga f a=0:=st.zero a (by simp)
  have ix0:(rd (fu (.lst ((a::rest).map nD)) (.int 0)):DM D)=pure (nD a):=rE (i:=0) rfl
  refine aM fun K hK=>?_
  simp only[eE,cH,bj,aL,ix0]
  have sr:=mF (v:=nD left) st.at_ (i:=a) (by rw[List.length_map,st.len];exact aw)
  rw[←List.map_set] at sr
  refine Rn.run sr ?_
  rw[hK];clear hK K
  have ss:=vq (l:=f) (i:=a) (v:=left) (by rw[st.len];exact aw)
  simp only[eE,cH,bj,aL]
  refine Rn.bindRd (nT (f.set a left)) (by
   show (aN (.ref M.length) _).map _=_
   simp only[aN,List.getElem?_set_self (List.getElem?_eq_some_iff.mp st.at_).1];rfl) ?_
  refine Rn.pure ⟨_,rfl,f.set a left,rfl,by rw[List.length_set];exact st.len,by have:=st.sum;omega,st.pot.sb (q:=M.length) Sb.set (by omega),Sb.new (p:=p) (.inr st.sb.le) (Nat.le_refl _) Sb.set st.sb⟩
noncomputable def rO:=aF 2 8 (mQ iI xr)
theorem vB {ns:List Int}{x:Int}:x∈dD ns ↔ x∈ns:=by
 unfold dD
 rw[(du _).1.mem_iff]
 have:∀ (l acc:List Int),x∈l.foldl PyProof.Rows.step_dedup acc ↔ x∈acc∨x∈l:=by
  intro l
  induction l with
  |nil=>intro acc;simp
  | cons a l ih=>
    intro acc
    rw[List.foldl_cons,ih,←LS.nW]
    by_cases h:a∈acc
    ·rw [if_pos h]
     constructor
     ·rintro (h1 | h1)
      ·exact .inl h1
      ·exact .inr (.tail _ h1)
     ·rintro (h1 | h1)
      ·exact .inl h1
      ·rcases List.mem_cons.mp h1 with rfl | h1
       ·exact .inl h
       ·exact .inr h1
    ·rw[if_neg h,List.mem_append,List.mem_singleton,List.mem_cons,or_assoc]
 rw[this];simp
theorem zy (ns:List Int):(dD ns).Nodup:=by
 unfold dD
 rw[(du _).1.nodup_iff]
 have:∀ (l acc:List Int),acc.Nodup->(l.foldl PyProof.Rows.step_dedup acc).Nodup:=by
  intro l
  induction l with
  |nil=>intro acc h;exact h
  | cons a l ih=>
    intro acc h
    rw[List.foldl_cons,←LS.nW]
    by_cases q:a∈acc
    ·rw[if_pos q];exact ih acc h
    ·rw[if_neg q]
     refine ih _ (List.nodup_append.mpr ⟨h,by simp,fun x hx y hy e=>?_⟩)
     rw[List.mem_singleton.mp hy] at e
     exact q (e ▸ hx)
 exact this ns [] (by simp)
structure Som(w:Nat)(l:List Nat):Prop where
 ne:l≠[]
 nd:l.Nodup
 lt:∀i∈l,i<w
 len:l.length≤100
theorem f9{w:Nat}(hw:w≤25)(p:Nat->Bool){x:Nat}(hx:x<w)(h:p x=true):Som w ((List.range w).filter p):=by
 refine⟨fun z=>?_,List.nodup_range.filter p,fun i hi=>List.mem_range.mp (List.mem_filter.mp hi).1,?_⟩
 ·have:x∈(List.range w).filter p:=List.mem_filter.mpr ⟨List.mem_range.mpr hx,h⟩
  rw[z] at this
  cases this
 ·have:=List.length_filter_le p (List.range w)
  rw[List.length_range] at this
  omega
theorem G9 (w x:Nat) (hx:x<w):∃ l:List Nat,dD [(x:Int),(((x + 1) % w:Nat):Int)]=l.map (fun n:Nat=>(n:Int))∧Som w l:=by
 have nn:∀i∈dD [(x:Int),(((x+1)%w:Nat):Int)],0≤i∧i<w:=fun i hi=>by
  have:=vB.mp hi
  have hm:=Nat.mod_lt (x+1) (show w > 0 by omega)
  simp only[List.mem_cons,List.not_mem_nil,or_false] at this
  omega
 have e:(dD [(x:Int),(((x+1)%w:Nat):Int)])=((dD [(x:Int),(((x+1)%w:Nat):Int)]).map Int.toNat).map (fun n:Nat=>(n:Int)):=by
  rw[List.map_map]
  conv=>lhs;rw[←List.map_id (dD _)]
  exact List.map_congr_left fun i hi=>by
   have:=nn i hi
   show i=((i.toNat:Nat):Int)
   omega
 refine⟨(dD [(x:Int),(((x+1)%w:Nat):Int)]).map Int.toNat,e,fun z=>?_,?_,fun i hi=>?_,?_⟩
 ·have:(x:Int)∈dD [(x:Int),(((x+1)%w:Nat):Int)]:=vB.mpr (by simp)
  rw[List.map_eq_nil_iff] at z
  rw[z] at this;cases this
 ·have:=zy [(x:Int),(((x+1)%w:Nat):Int)]
  rw[e] at this
  exact List.pairwise_map.mp this |>.imp fun h z=>h (by rw[z])
 ·obtain⟨j,hj,rfl⟩:=List.mem_map.mp hi
  have:=nn j hj
  omega
 ·rw[List.length_map]
  have:=vA [(x:Int),(((x+1)%w:Nat):Int)]
  rw[List.length_cons,List.length_singleton] at this
  omega
structure RowsSt(M0:Mo)(p w W:Nat)(R:List (List Nat))(i:Nat)(M:Mo):Prop where
 pot:cO p M
 sb:Sb p M0 M
 at_:M[M0.length]?=some (.lst (R.map nT))
 len:R.length=i
 row:∀r∈R,r.length=w∧r.sum=W
noncomputable def ou(M0 M1:Mo)(p tp w W kd:Nat)(i:Nat)(δ:aa)(M:Mo):Prop:=∃(R:List (List Nat)) (z1 z2:Option D),δ=[some (.ref p),some (nD tp),some (nD w),some (nD W),some (nD kd),some (.ref M1.length),z1,z2]∧RowsSt M1 p w W R i M
theorem DN {p tp:Nat}{M:Mo} (hp:cO p M) (h1:1≤tp) (h2:tp≤6):Rn (rO [.ref p,nD tp]) M fun d M'=>∃ (R:List (List Nat)) (W:Nat),d=nM R∧WK R W∧R.length≤tp∧W≤12∧cO p M'∧Sb p M M':=by
 unfold rO mQ iD;dsimp only
 refine Rn.call rfl ?_
 have mk2:∀x y:D,tV [x,y]=pure (.tup [x,y]):=fun x y=>pI (by simp)
 refine aM fun K hK=>?_
 simp
 refine Rn.bind (bL (far:=(tp:Int)) hp (by omega) (by omega)) fun d2 M2 ⟨t2,g2,e2,hp2,s2⟩=>?_
 subst e2
 have ml5:dR [.int 1,.int 2,.int 3,.int 6,.int 12]=pure (.lst ([1,2,3,6,12].map nD)):=cW (by simp)
 rw[Gx,aD,ml5,aD]
 refine Rn.bind (bL (far:=5) hp2 (by decide) (by decide)) fun d3 M3 ⟨t3,g3,e3,hp3,s3⟩=>?_
 subst e3
 have h3:t3<[1,2,3,6,12].length:=by simp;omega
 have ix:(rd (fu (.lst ([1,2,3,6,12].map nD)) (nD t3)):DM D)=pure (nD ([1,2,3,6,12][t3])):=rE (by rw[List.getElem?_map,List.getElem?_eq_getElem h3];rfl)
 have hW:1≤[1,2,3,6,12][t3]∧[1,2,3,6,12][t3]≤12:=by
  have:=List.getElem_mem h3
  generalize [1,2,3,6,12][t3]=x at this
  simp at this
  omega
 rw[ix]
 generalize [1,2,3,6,12][t3]=W at hW
 obtain⟨hW1,hW2⟩:=hW
 simp[mk2]
 rw[hK];clear hK K
 have w1:1≤t2+1:=by omega
 have wt:t2+1≤tp:=by omega
 revert w1 wt
 generalize t2+1=w
 intro w1 wt
 -- the kind
 refine aM fun K hK=>?_
 simp
 refine Rn.bind (bL (far:=6) hp3 (by decide) (by decide)) fun d4 M4 ⟨kd,g4,e4,hp4,s4⟩=>?_
 subst e4
 refine Rn.cG (by simp) ?_
 rw[hK];clear hK K
 have sb4:Sb p M M4:=s2.trans (s3.trans s4)
 have st0:RowsSt M4 p w W [] 0 (M4++[.lst []]):=⟨hp4.sb (q:=M4.length) Sb.push (by have:=hp4.lt;omega),Sb.push,by simp,rfl,fun r hr=>by cases hr⟩
 have hp4l:=hp4.lt
 -- the rows
 refine aM fun K hK=>?_
 simp only[cH,bj,aL,iW (n:=w) (by omega),kW]
 refine Rn.bind (cZ (ou M M4 p tp w W kd) _ 0 _ _ ⟨[],none,none,rfl,st0⟩ (fun x d δ M5 hx hI=>?_)) (fun r M5 hI=>?_)
 ·obtain ⟨R,z1,z2,rfl,st⟩:=hI
  rw[Nat.zero_add] at st ⊢
  have hx':x<w:=by
   have:=(List.getElem?_eq_some_iff.mp hx).1
   simpa using this
  have ed:d=nD x:=by
   rw[List.getElem?_map,List.getElem?_range hx'] at hx
   exact (Option.some.inj hx).symm
  subst ed
  rw[ul,aD]
  have lr:(rd (fun M=>(wz [nD w] M).map D.lst):DM D)=pure (.lst ((List.range w).map nD)):=cu fun M=>by
   show (if -(2^62)≤(w:Int)∧(w:Int)≤2^20 then some ((List.range (w:Int).toNat).map nD) else none).map D.lst=_
   rw[if_pos ⟨by omega,by omega⟩];simp
  refine aM fun K hK=>?_
  simp only[eE,cH,bj,aL,lr]
  rw[hK];clear hK K
  have som0:Som w (List.range w):=by
   have:=f9 (by omega) (fun _=>true) hx' rfl
   rwa [List.filter_eq_self.mpr (fun _ _=>rfl)] at this
  -- halves
  have half:(rd (jq (nD w) (.int 2)):DM D)=pure (nD (w / 2)):=uh (b:=2) (by decide) (by decide +kernel)
  refine aM fun K hK=>?_
  suffices H:∀l1:List Nat,Som w l1->(kd≠3->l1=List.range w)->Rn (K (.nx [some (.ref p),some (nD tp),some (nD w),some (nD W),some (nD kd),some (.ref M4.length),some (nD x),some (.lst (l1.map nD))])) M5 (fun r M'=>∃δ',r=Fl.nx δ'∧ou M M4 p tp w W kd (x+1) δ' M') by
   by_cases h3:kd=3
   ·have e3:(rd (dM (nD kd) (.int 3)):DM D)=pure (.bl true):=by rw[show D.int 3=nD 3 from rfl,cU,h3];rfl
    simp only[eE,cH,bj,aL,e3,eX,if_true,ug,vg,aW,bz,List.map_cons,List.map_nil,List.length_cons,List.length_nil,Nat.zero_add,Option.getD_some,List.replicate_succ,List.replicate_zero,List.cons_append,List.nil_append]
    rw[aP nD (fun y=>decide (y<w / 2)==decide (x<w / 2)) nD (by simp;omega) (fun y hy=>by simp[half,zg,Dv]) (fun y hy _=>by simp)]
    simp only[eE,aD,zm]
    exact H _ (f9 (by omega) _ hx' (by simp)) fun z=>absurd h3 z
   ·have e3:(rd (dM (nD kd) (.int 3)):DM D)=pure (.bl false):=by rw[show D.int 3=nD 3 from rfl,cU,decide_eq_false h3]
    simp only[cH,bj,aL,e3,eX,Bool.false_eq_true,if_false]
    exact H _ som0 fun _=>rfl
  intro l1 som1 k1
  rw[hK];clear hK K
  refine aM fun K hK=>?_
  suffices H:∀ l2:List Nat,Som w l2->Rn (K (.nx [some (.ref p),some (nD tp),some (nD w),some (nD W),some (nD kd),some (.ref M4.length),some (nD x),some (.lst (l2.map nD))])) M5 (fun r M'=>∃ δ',r=Fl.nx δ'∧ou M M4 p tp w W kd (x + 1) δ' M') by
   by_cases h4:kd=4
   ·have e4:(rd (dM (nD kd) (.int 4)):DM D)=pure (.bl true):=by rw[show D.int 4=nD 4 from rfl,cU,h4];rfl
    have l1e:=k1 (by omega)
    subst l1e
    by_cases hw:1<w
    ·have eg:(rd (mU (nD w) (.int 1)):DM D)=pure (.bl true):=by rw[show D.int 1=nD 1 from rfl,zb,decide_eq_true hw]
     have md:∀y:Nat,(rd (gH (nD y) (.int 2)):DM D)=pure (nD (y%2)):=fun y=>vh (b:=2) (by decide)
     simp only[eE,cH,bj,aL,e4,eg,eX,if_true,ug,vg,aW,bz,List.map_cons,List.map_nil,List.length_cons,List.length_nil,Nat.zero_add,Option.getD_some,List.replicate_succ,List.replicate_zero,List.cons_append,List.nil_append]
     rw[aP nD (fun y=>!decide (y%2=x%2)) nD (by simp;omega) (fun y hy=>by simp[md,iV]) (fun y hy _=>by simp)]
     simp only[eE,aD,zm]
     refine H _ ?_
     by_cases q:x%2=0
     ·exact f9 (by omega) _ (x:=1) hw (by simp;omega)
     ·exact f9 (by omega) _ (x:=0) (by omega) (by simp;omega)
    ·have eg:(rd (mU (nD w) (.int 1)):DM D)=pure (.bl false):=by rw[show D.int 1=nD 1 from rfl,zb,decide_eq_false hw]
     simp only[cH,bj,aL,e4,eg,eX,if_true,Bool.false_eq_true,if_false]
     exact H _ som0
   ·have e4:(rd (dM (nD kd) (.int 4)):DM D)=pure (.bl false):=by rw[show D.int 4=nD 4 from rfl,cU,decide_eq_false h4]
    simp only[cH,bj,aL,e4,eX,Bool.false_eq_true,if_false]
    exact H _ som1
  intro l2 som2
  rw[hK];clear hK K
  refine aM fun K hK=>?_
  suffices H:∀ l3:List Nat,Som w l3->Rn (K (.nx [some (.ref p),some (nD tp),some (nD w),some (nD W),some (nD kd),some (.ref M4.length),some (nD x),some (.lst (l3.map nD))])) M5 (fun r M'=>∃ δ',r=Fl.nx δ'∧ou M M4 p tp w W kd (x + 1) δ' M') by
   by_cases h5:kd=5
   ·have e5:(rd (dM (nD kd) (.int 5)):DM D)=pure (.bl true):=by rw[show D.int 5=nD 5 from rfl,cU,h5];rfl
    obtain⟨l3,el,som3⟩:=G9 w x hx'
    have ml:dR [nD x,nD ((x+1)%w)]=pure (.lst [nD x,nD ((x+1)%w)]):=cW (by simp)
    have sq:(rd (fun M=>(wY [.lst [nD x,nD ((x+1)%w)]] M).map D.lst):DM D)=pure (.lst (l3.map nD)):=cu fun M=>by
     have e1:intsOf [nD x,nD ((x+1)%w)]=some [(x:Int),(((x+1)%w:Nat):Int)]:=rfl
     simp only[wY,aN,Option.bind_some,e1]
     rw[if_pos (by simp),el,List.map_map]
     rfl
    simp only[eE,cH,bj,aL,e5,eX,if_true,vf,vh (a:=x+1) (b:=w) (by omega),ml,sq]
    exact H l3 som3
   ·have e5:(rd (dM (nD kd) (.int 5)):DM D)=pure (.bl false):=by rw[show D.int 5=nD 5 from rfl,cU,decide_eq_false h5]
    simp only[cH,bj,aL,e5,eX,Bool.false_eq_true,if_false]
    exact H _ som2
  intro l3 som3
  rw[hK];clear hK K
  simp only[cH,bj,aL]
  refine Rn.bindRd (R.map nT) (by simp only[aN,st.at_]) ?_
  refine Rn.bind (G6 st.pot (by omega) (by omega) som3.ne som3.nd som3.lt som3.len) fun d6 M6 ⟨r,e6,rl,rs,hp6,s6⟩=>?_
  subst e6
  have at6:M6[M4.length]?=some (.lst (R.map nT)):=s6.at (by omega) st.at_
  have ar:=uN (v:=nT r) at6 (by have:=st.len;simp;omega)
  refine Rn.run ar ?_
  refine Rn.pure ⟨_,rfl,R++[r],_,_,rfl,hp6.sb (q:=M4.length) Sb.set (by omega),Sb.new (p:=p) (.inr (st.sb.trans s6).le) (Nat.le_refl _) Sb.set (st.sb.trans s6),?_,by rw[List.length_append,st.len];rfl,fun q hq=>?_⟩
  ·rw[List.getElem?_set_self (List.getElem?_eq_some_iff.mp at6).1];simp
  ·rcases List.mem_append.mp hq with h | h
   ·exact st.row q h
   ·rw[List.mem_singleton.mp h];exact⟨rl,rs⟩
 ·obtain⟨δ',rfl,R,z1,z2,rfl,st⟩:=hI
  rw[hK];clear hK K
  rw[List.length_map,List.length_range,Nat.zero_add] at st
  simp only[cH,bj,aL]
  refine Rn.bindRd (nM R) (by
   show (aN (.ref M4.length) M5).map _=_
   simp only[aN,st.at_];rfl) ?_
  refine Rn.pure ?_
  refine⟨_,rfl,?_⟩
  exact⟨R,rfl,W,⟨by rw[st.len];exact w1,by rw[st.len];omega,fun r hr=>by rw[st.len];exact (st.row r hr).1,fun r hr=>(st.row r hr).2,hW1⟩,by rw[st.len];exact wt,hW2,st.pot,sb4.trans st.sb⟩
noncomputable def xm:=aF 2 4 (oF iI)
noncomputable def IK(p w:Nat)(M:Mo)(i:Nat)(δ:aa)(M1:Mo):Prop:=∃(z:Option D) (l:List Nat),δ=[some (.ref p),some (nD w),some (.ref M.length),z]∧l.length=i∧(∀n∈l,n<1000000)∧M1[M.length]?=some (.lst (l.map nD))∧cO p M1∧Sb p M M1
theorem yF {p:Nat}{M:Mo}{w:Nat} (h:cO p M) (h1:1≤w) (h2:w≤25):Rn (xm [.ref p,nD w]) M fun d M'=>∃ l:List Nat,d=nT l∧l.length=w∧0<l.sum∧(∀ n∈l,n≤1000000)∧cO p M'∧Sb p M M':=by
 have pw:(rd (tZ (.int 10) (.int 6)):DM D)=pure (.int 1000000):=by rw[Cd (by decide)];rfl
 have rg:jz [nD w]=some (.fix ((List.range w).map nD)):=pK (by omega)
 have hp:=h.lt
 simp[xm,oF,pw,rg,kW]
 refine Rn.cG (by simp) ?_
 refine Rn.bind (cZ (IK p w M) _ 0 _ _ ⟨none,[],rfl,rfl,by simp,by simp,h.sb (q:=M.length) Sb.push (by omega),Sb.push⟩ (fun j d δ M1 hj hI=>?_)) (fun r M1 hI=>?_)
 ·obtain⟨z,l,rfl,hl,hb,hq,hp1,hs⟩:=hI
  have hj':j<w:=by
   have:=(List.getElem?_eq_some_iff.mp hj).1
   simpa using this
  simp
  refine Rn.bindRd (l.map nD) (by simp[aN,hq]) ?_
  refine Rn.bind (bL (far:=4) hp1 (by decide) (by decide)) fun d2 M2 ⟨t2,g2,e2,hp2,s2⟩=>?_
  refine Rn.bind (bL (far:=60) hp2 (by decide) (by decide)) fun d3 M3 ⟨t3,g3,e3,hp3,s3⟩=>?_
  refine Rn.bind (bL (far:=1000000) hp3 (by decide) (by decide)) fun d4 M4 ⟨t4,g4,e4,hp4,s4⟩=>?_
  subst e2 e3 e4
  have ml:dR [.int 0,.int 1,nD t2,nD t3,nD t4]=pure (.lst ([0,1,t2,t3,t4].map nD)):=cW (by simp)
  rw[ml,aD]
  refine Rn.bind (bL (far:=5) hp4 (by decide) (by decide)) fun d5 M5 ⟨t5,g5,e5,hp5,s5⟩=>?_
  subst e5
  have h5:t5<[0,1,t2,t3,t4].length:=by simp;omega
  refine Rn.bindRd (nD ([0,1,t2,t3,t4][t5])) (by
   show atI ([0,1,t2,t3,t4].map nD) (t5:Int)=_
   exact j8 (by rw[List.getElem?_map,List.getElem?_eq_getElem h5];rfl)) ?_
  have q5:M5[M.length]?=some (.lst (l.map nD)):=s5.at (by omega) (s4.at (by omega) (s3.at (by omega) (s2.at (by omega) hq)))
  have lt5:=(List.getElem?_eq_some_iff.mp q5).1
  refine Rn.run (uN q5 (by simp;omega)) ?_
  have bnd:[0,1,t2,t3,t4][t5]<1000000:=by
   have:=List.getElem_mem h5
   generalize [0,1,t2,t3,t4][t5]=x at this
   simp at this
   omega
  refine Rn.pure ⟨_,rfl,some d,l++[[0,1,t2,t3,t4][t5]],rfl,by simp[hl],fun n hn=>?_,?_,hp5.sb (q:=M.length) Sb.set (by omega),?_⟩
  ·rcases List.mem_append.mp hn with k | k
   ·exact hb n k
   ·simp only[List.mem_singleton] at k;subst k;exact bnd
  ·rw[List.getElem?_set_self lt5];simp
  ·exact Sb.new (p:=p) (.inr (hs.trans (s2.trans (s3.trans (s4.trans s5)))).le) (Nat.le_refl _) Sb.set (hs.trans (s2.trans (s3.trans (s4.trans s5))))
 ·obtain ⟨δ',rfl,z,l,rfl,hl,hb,hq,hp1,hs⟩:=hI
  have hl':l.length=w:=by simpa using hl
  cases l with
  |nil=>simp at hl';omega
  | cons a l=>
    simp
    refine Rn.bindRd (nD a) (yx (i:=0) hq rfl) ?_
    have e:(rd (jf (nD a) (.int 1)):DM D)=pure (nD (a+1)):=by unfold nD;rw[BX];rfl
    rw[e,aD]
    refine Rn.bind (bL (far:=(w:Int)) hp1 (by omega) (by omega)) fun d2 M2 ⟨t2,g2,e2,hp2,s2⟩=>?_
    subst e2
    have q2:=s2.at (q:=M.length) (by omega) hq
    have lt2:=(List.getElem?_eq_some_iff.mp q2).1
    have ht2:t2<(a::l).length:=by omega
    refine Rn.run (mF q2 (by rw[List.length_map];exact ht2)) ?_
    have e3:((a::l).map nD).set t2 (nD (a+1))=((a::l).set t2 (a+1)).map nD:=by rw[List.map_set]
    rw[e3]
    refine Rn.rd (a:=nT ((a::l).set t2 (a+1))) ?_ ⟨_,rfl,by rw[List.length_set];exact hl',?_,fun n hn=>?_,hp2.sb (q:=M.length) Sb.set (by omega),Sb.new (p:=p) (.inr (hs.trans s2).le) (Nat.le_refl _) Sb.set (hs.trans s2)⟩
    ·show (aN (.ref M.length) _).map _=_
     simp only[aN,List.getElem?_set_self lt2];rfl
    ·have:a+1∈(a::l).set t2 (a+1):=List.mem_set ht2 (a+1)
     have:=qx this
     omega
    ·have ha:=hb a (by simp)
     rcases List.mem_or_eq_of_mem_set hn with k | k
     ·have:=hb n k;omega
     ·omega
noncomputable def qF:=aF 1 1 iK
theorem FJ(R:List (List Nat))(W:Nat):qF [aQ R W]=pure (nD R.length):=by
 simp[qF,iK,bW,cB]
theorem qp{R:List (List Nat)}{W:Nat}(h:R.length≤25):ww "Walk" qF [aQ R W]=pure (nD R.length):=by
 have e:ww "Walk" qF [aQ R W]=(if ("Walk":Str) = "Walk" then qF [aQ R W]>>=vU else stuck):=rfl
 rw[e,if_pos rfl,FJ,aD]
 have q:(0:Int)≤(R.length:Int)∧(R.length:Int)<2^63:=⟨by omega,by omega⟩
 unfold vU nD
 dsimp only
 rw[if_pos q]
noncomputable def rM:=aF 2 2 (ji mL)
theorem Ff(x n:Nat):rM [nD x,nD n]=pure (.bl (decide (x<n))):=by
 have e1:(rd (o8 (.int 0) (nD x)):DM D)=pure (.bl true):=by rw[show D.int 0=nD 0 from rfl,lE,decide_eq_true (Nat.zero_le _)]
 simp[rM,ji,tL,e1,zg]
noncomputable def qI:=aF 2 2 (cP rM qF)
theorem pL{R:List (List Nat)}{W x:Nat}(h:R.length≤25)(hx:x<R.length):qI [aQ R W,nD x]=pure .non:=by
 simp[qI,cP,qp h,Ff,hx]
noncomputable def jM:=aF 4 5 (cA qI rN xq cN)
theorem Em{R:List (List Nat)}{W x y k:Nat}(h:WK R W)(hW:W≤12)(hx:x<R.length)(hy:y<R.length)(hk:k≤100):jM [aQ R W,nD x,nD y,nD k]=pure (pT (pl (ga (fQ (stp R) k (unit R.length x)) y) (fQ (stp R) k (unit R.length x)).sum)):=by
 have h2:=h.n25
 have hl:=qj (R:=R) (l:=unit R.length x) (dm _ _) k
 have hs:=uV h (dm R.length x) k
 rw[uy hx] at hs
 have hb:(fQ (stp R) k (unit R.length x)).sum<2^1000:=by rw[hs];exact yV hW (by omega) (by decide)
 have h0:0<(fQ (stp R) k (unit R.length x)).sum:=by rw[hs];exact Nat.mul_pos (by decide) (Nat.pow_pos h.w1)
 simp[jM,cA,pL h2 hx,pL h2 hy,gF (m := "after") (by decide),bW,cB,o6 (n:=R.length) (x:=x) (by omega),rQ h (by omega) (dm _ _) (n6 h hx) hk,Ca (l:=fQ (stp R) k (unit R.length x)) (i:=y) (by rw[hl];exact hy),Gq h0 hb]
noncomputable def xj:=aF 1 1 rW
noncomputable def jZ:=Bu 3 rY
theorem JK(w:Str)(a:Bool):xj [.lst [.tup [.str w,.bl a]]]=pure (.str (if a then "" else w)):=by
 cases a<;>(funext M;rfl)
theorem Ir(u v w:Str)(a b c:Bool):xj [.lst [.tup [.str u,.bl a],.tup [.str v,.bl b],.tup [.str w,.bl c]]]=pure (.str (if a then (if b then (if c then "" else w) else v) else u)):=by
 cases a<;>cases b<;>cases c<;>(funext M;rfl)
theorem wj(v:D):jZ (pure v)=pure (.str ""):=by funext M;rfl
theorem tE:jZ (raise "NoLot")=pure (.str "lot"):=by funext M;rfl
theorem yo:jZ (raise "Unlike")=pure (.str "unlike"):=by funext M;rfl
theorem tH:jZ (raise "NoPlace")=pure (.str "place"):=by funext M;rfl
theorem nA:jZ (raise "NoSteps")=pure (.str "steps"):=by funext M;rfl
noncomputable def Bo:=aF 1 1 rZ
noncomputable def uK:=aF 3 3 (jN Bo)
theorem yt(i:Int):mL [.int i]=pure (.bl true):=by funext M;rfl
theorem FN(i:Int):Bo [.int i]=pure (.bl true):=by funext M;rfl
theorem le_int(i j:Int):(rd (o8 (.int i) (.int j)):DM D)=pure (.bl (decide (i≤j))):=by funext M;rfl
theorem lt_int(i j:Int):(rd (BJ (.int i) (.int j)):DM D)=pure (.bl (decide (i<j))):=by funext M;rfl
def wh(n:Int):D->Bool
 |.int i=>decide (0≤i)&&decide (i≤n)
 |_=>false
inductive Sim:D->Prop
 |int (i:Int):Sim (.int i)
 |bl (b:Bool):Sim (.bl b)
 |non:Sim .non
 |str (x:Str):Sim (.str x)
 |tup (l:List D):Sim (.tup l)
theorem pR{d:D}(h:Sim d)(n:Int):uK [d,.int 0,.int n]=pure (.bl (wh n d)):=by
 cases h with
 |int i=>simp[uK,jN,FN,le_int,wh];by_cases h0:0≤i<;>simp[h0]
 |bl b=>funext M;rfl
 |non=>funext M;rfl
 |str x=>funext M;rfl
 |tup l=>funext M;rfl
theorem Fe {d:D} (h:Sim d) (n:Nat):rM [d,nD n]=pure (.bl (wh (n - 1) d)):=by
 cases h with
 |int i=>
   have e:decide (i<(n:Int))=decide (i≤(n:Int)-1):=by apply decide_eq_decide.mpr;omega
   simp[rM,ji,yt,le_int,lt_int,nD,wh,e]
   by_cases h0:0≤i<;>simp[h0]
 |bl b=>funext M;rfl
 |non=>funext M;rfl
 |str x=>funext M;rfl
 |tup l=>funext M;rfl
theorem ur{R:List (List Nat)}{W:Nat}{d:D}(h4:R.length≤4)(hd:Sim d):qI [aQ R W,d]=if wh (R.length-1) d then pure .non else raise "NoPlace":=by
 have h:R.length≤25:=by omega
 simp[qI,cP,qp h,Fe hd]
 cases e:wh (R.length-1) d<;>simp[yC,qp h]
 have z:R.length=0∨R.length=1∨R.length=2∨R.length=3∨R.length=4:=by omega
 rcases z with z | z | z | z | z<;>(rw[z];funext M;rfl)
theorem zp {d:D} (hd:Sim d):Frs [d]=if wh 100 d then pure .non else raise "NoSteps":=by
 cases hd with
 |int i=>
   simp[Frs,cQ,yt,le_int,wh]
   by_cases h0:0≤i<;>by_cases h1:i≤100<;>simp[h0,h1]
   all_goals (funext M;rfl)
 |bl b=>funext M;rfl
 |non=>funext M;rfl
 |str x=>funext M;rfl
 |tup l=>funext M;rfl
theorem EY(l:List D):qD [.lst l]=pure (.bl false):=by funext M;rfl
theorem Fb:qD [.non]=pure (.bl false):=by funext M;rfl
theorem uq{d:D}(h:qD [d]=pure (.bl false)):qH [d]=raise "NoLot":=by
 simp[qH,dH,h]
 funext M;rfl
inductive LotK(R:List (List Nat)):D->Bool->Bool->Prop
 |fit {l:List Nat}:qJ l->l.length=R.length->LotK R (nT l) true true
 |long {l:List Nat}:qJ l->l.length=R.length+1->LotK R (nT l) true false
 |noughts:LotK R (nT (List.replicate R.length 0)) false false
 |lst (l:List Nat):LotK R (.lst (l.map nD)) false false
 |non:LotK R .non false false
inductive FarK:D->Bool->Prop
 |fit {k:Nat}:k≤100->FarK (nD k) true
 |bad {d:D}:Sim d->wh 100 d=false->FarK d false
theorem FarK.wi {d:D}{f:Bool} (h:FarK d f):uK [d,.int 0,.int 100]=pure (.bl f):=by
 cases h with
 | @fit k hk=>
   rw[show (nD k:D)=.int (k:Int) from rfl,pR (.int _)]
   have:decide ((k:Int)≤100)=true:=decide_eq_true (by omega)
   simp[wh,this]
 |bad hs hw=>rw[pR hs,hw]
def word(g u f:Bool):Str:=if g then (if u then (if f then "" else "steps") else "unlike") else "lot"
theorem Js {R:List (List Nat)}{d:D}{g u:Bool} (h:LotK R d g u) (h1:1≤R.length) (h4:R.length≤4):qH [d]=if g then pure .non else raise "NoLot":=by
 cases h with
 |fit hL _=>rw[iY hL];rfl
 |long hL _=>rw[iY hL];rfl
 |noughts=>
   refine uq ?_
   rw[yp (by simp;omega) (by simp;omega)]
   simp
 |lst l=>exact uq (EY _)
 |non=>exact uq Fb
theorem Hs {R:List (List Nat)}{W:Nat}{d e:D}{g u f:Bool} (wk:WK R W) (hW:W<2 ^ 60) (h4:R.length≤4) (hl:LotK R d g u) (hf:FarK e f):jZ (cN [aQ R W,d,e])=pure (.str (word g u f)):=by
 have rl:=Js hl wk.n1 h4
 cases hl with
 | @fit l hL hn=>
   cases hf with
   |fit hk=>rw[rQ wk hW hn hL hk,wj];rfl
   |bad hs hw=>
     have:cN [aQ R W,nT l,e]=raise "NoSteps":=by simp[cN,bx,iY hL,gQ,bW,cB,iV,hn,zp hs,hw,fZ]
     rw[this,nA];rfl
 | @long l hL hn=>
   have:cN [aQ R W,nT l,e]=raise "Unlike":=by
    simp[cN,bx,iY hL,gQ,bW,cB,iV,hn]
   rw[this,yo];rfl
 |noughts=>
   have:cN [aQ R W,nT (List.replicate R.length 0),e]=raise "NoLot":=by simp[cN,bx,rl,fZ]
   rw[this,tE];rfl
 |lst l=>
   have:cN [aQ R W,.lst (l.map nD),e]=raise "NoLot":=by simp[cN,bx,rl,fZ]
   rw[this,tE];rfl
 |non=>
   have:cN [aQ R W,.non,e]=raise "NoLot":=by simp[cN,bx,rl,fZ]
   rw[this,tE];rfl
theorem uL{R:List (List Nat)}{W x:Nat}{e:D}(wk:WK R W)(hx:x<R.length)(hs:Sim e)(hw:wh 100 e=false):cN [aQ R W,nT (unit R.length x),e]=raise "NoSteps":=by
 simp[cN,bx,iY (n6 wk hx),gQ,bW,cB,iV,dm,zp hs,hw,fZ]
theorem Hu {R:List (List Nat)}{W:Nat}{e:D}{f:Bool} (wk:WK R W) (hW:W<2 ^ 60) (hf:FarK e f):jZ (qG [aQ R W,e])=pure (.str (if f then "" else "steps")):=by
 cases hf with
 |fit hk=>rw[Gv wk hW hk,wj];rfl
 | bad hs hw=>
   have h2:=wk.n25
   have h1:=wk.n1
   have:qG [aQ R W,e]=raise "NoSteps":=by
    simp[qG,gm,bW,cB,iW (n:=R.length) (by omega),aW,bz]
    obtain⟨n,hn⟩:∃n,R.length=n+1:=⟨R.length-1,by omega⟩
    rw[hn,List.range_succ_eq_map,←hn]
    rw[uC nD (c := "NoSteps") (by
     simp[gF (m := "after") (by decide),o6 (n:=R.length) (x:=0) (by omega),uL wk (x:=0) (by omega) hs hw])]
    simp[fZ]
   rw[this,nA];rfl
theorem Ht {R:List (List Nat)}{W:Nat}{x y e:D}{f:Bool} (wk:WK R W) (hW:W≤12) (h4:R.length≤4) (hx:Sim x) (hy:Sim y) (hf:FarK e f) :
  jZ (jM [aQ R W,x,y,e])=pure (.str (if wh (R.length-1) x then (if wh (R.length-1) y then (if f then "" else "steps") else "place") else "place")):=by
 have h2:=wk.n25
 have nat:∀{d:D},wh ((R.length:Int)-1) d=true->∃n:Nat,d=nD n∧n<R.length:=fun {d} h=>by
  cases d<;>simp[wh] at h
  rename_i i
  exact⟨i.toNat,by unfold nD;congr 1;omega,by omega⟩
 cases ex:wh ((R.length:Int)-1) x with
 |false=>
   have:jM [aQ R W,x,y,e]=raise "NoPlace":=by simp[jM,cA,ur h4 hx,ex,fZ]
   rw[this,tH];rfl
 | true=>
   have rx:qI [aQ R W,x]=pure .non:=by rw[ur h4 hx,ex];rfl
   cases ey:wh ((R.length:Int)-1) y with
   |false=>
     have:jM [aQ R W,x,y,e]=raise "NoPlace":=by simp[jM,cA,rx,ur h4 hy,ey,fZ]
     rw[this,tH];rfl
   | true=>
     obtain⟨n,rfl,hn⟩:=nat ex
     obtain⟨m,rfl,hm⟩:=nat ey
     cases hf with
     |fit hk=>rw[Em wk hW hn hm hk,wj];rfl
     | bad hs hw=>
       have:jM [aQ R W,nD n,nD m,e]=raise "NoSteps":=by
        simp[jM,cA,pL h2 hn,pL h2 hm,gF (m := "after") (by decide),bW,cB,o6 (n:=R.length) (x:=n) (by omega),uL wk hn hs hw,fZ]
       rw[this,nA];rfl
noncomputable def zJ:=aF 1 17 (Bs uI uJ rO xm iI uK xj rJ cN qG jM jZ)
noncomputable def Iz(cs:List Int)(i:Nat)(δ:aa)(M:Mo):Prop:=∃x1 x2 x3 x4 x5 x6 x7 x8 x9 x10 x11 x12 x13 x14 x15 x16,δ=[some (.scr cs),x1,x2,x3,x4,x5,x6,x7,x8,x9,x10,x11,x12,x13,x14,x15,x16]
noncomputable def vH(cs:List Int)(k p:Nat)(R:List (List Nat))(W:Nat)(a:List Nat)(i:Nat)(δ:aa)(M:Mo):Prop:=(∃x7 x8 x9 x10 x11 x12 x13 x14 x15 x16,δ=[some (.scr cs),some (nD k),some (.ref p),some (nM R),some (aQ R W),some (nD R.length),some (nT a),x7,x8,x9,x10,x11,x12,x13,x14,x15,x16])∧cO p M
theorem Gz(a:List Nat)(h:a.length≤100):(rd (jf (nT a) (.tup [.int 1])):DM D)=pure (nT (a++[1])):=cu fun M=>by
 have:((a.map nD)++[D.int 1]).length≤sizeLine:=Nat.le_trans (by simp;omega:_≤101) (by decide)
 show (if decide (((a.map nD)++[D.int 1]).length≤sizeLine)=true then some (D.tup ((a.map nD)++[D.int 1])) else none)=_
 rw[if_pos (decide_eq_true this)]
 simp[nD,nT]
theorem By{l:List D}{i:Nat}{d:D}(h:l[i]?=some d):(rd (fu (.lst l) (nD i)):DM D)=pure d:=rE h
theorem GQ{n:Nat}(h1:1≤n)(h2:n≤25):(rd (wD (.tup [.int 0]) (nD n)):DM D)=pure (nT (List.replicate n 0)):=cu fun M=>by
 have:decide ((1:Int)≤(n:Int)∧(n:Int)≤1000)=true:=decide_eq_true ⟨by omega,by omega⟩
 simp only[wD,nD,this,if_true]
 simp[nT,nD]
theorem H8(a:List Nat):(rd (fun M=>Option.map D.lst (jx [nT a] M)):DM D)=pure (.lst (a.map nD)):=cu fun M=>by
 simp[jx,jJ,nT]
theorem gt_int(i j:Int):(rd (mU (.int i) (.int j)):DM D)=pure (.bl (decide (i > j))):=by funext M;rfl
theorem Ai(l:List Nat):(rd (fK [nT l,.ty "tuple"]):DM D)=pure (.bl true):=mC (t := "tuple") (fun _=>rfl) (by decide)
theorem Jd{R:List (List Nat)}{d:D}{g u:Bool}{β:Type}(h:LotK R d g u)(k:D->DM β):((rd (fK [d,.ty "tuple"]):DM D)>>=fun a=>eY a>>=fun b=>(if b=true then (rd (uv [d])>>=fun x=>rd (mU x (.int 0))) else pure (.bl false))>>=k)=k (.bl g):=by
 have s0:(rd (mU (nD 0) (.int 0)):DM D)=pure (.bl false):=by funext M;rfl
 have sp:∀n:Nat,0<n->(rd (mU (nD n) (.int 0)):DM D)=pure (.bl true):=fun n hn=>by
  show (rd (mU (.int (n:Int)) (.int 0)):DM D)=_
  rw[gt_int,decide_eq_true (by omega)]
 cases h with
 | @fit l hL _=>simp[Ai,sp _ hL.2.2]
 | @long l hL _=>simp[Ai,sp _ hL.2.2]
 |noughts=>simp[Ai,s0]
 |lst l=>rfl
 |non=>rfl
theorem Jy{R:List (List Nat)}{d:D}{g u:Bool}{β:Type}(h:LotK R d g u)(h4:R.length≤4)(k:D->DM β):(eY (.bl g)>>=fun b=>(if b=true then ((rd (gG [d]):DM D)>>=fun x=>rd (dM x (nD R.length))) else pure (.bl false))>>=k)=k (.bl u):=by
 cases h with
 | @fit l hL hn=>simp[gQ,cU,hn]
 | @long l hL hn=>simp[gQ,cU,hn]
 |noughts=>rfl
 |lst l=>rfl
 |non=>rfl
theorem Iu{i j:Nat}{x y:D}{δ:aa}:gT 2 (dN (gN i) (dN (gN j) lW)) (.tup [x,y]) δ=pure ((δ.set i (some x)).set j (some y)):=by simp[gT,dN,lW]
theorem Ce{n j:Nat}{d:D}(h:((List.range n).map nD)[j]?=some d):j<n∧d=nD j:=by
 have hj:j<n:=by
  have:=(List.getElem?_eq_some_iff.mp h).1
  simpa using this
 rw[List.getElem?_map,List.getElem?_range hj] at h
 exact⟨hj,(Option.some.inj h).symm⟩
theorem Dc (cs:List Int) (hcs:cs.length≤1000000):∀ M₀,Rn (zJ [.scr cs]) M₀ fun d _=>d=.bl true:=by
 intro M₀
 unfold zJ Bs wK;dsimp only
 refine Rn.call rfl ?_
 refine aM fun K hK=>?_
 have rg:∀w:Nat,w≤6->jz [nD w]=some (.fix ((List.range w).map nD)):=fun w h=>pK (by omega)
 have e0:∃m:Nat,m≤4∧(D.int (if (if (4:Int)<(cs.length:Int) then 4 else (cs.length:Int)) > 1 then (if (4:Int)<(cs.length:Int) then 4 else (cs.length:Int)) else 1))=nD m:=by
  refine⟨(if (if (4:Int)<(cs.length:Int) then 4 else (cs.length:Int)) > 1 then (if (4:Int)<(cs.length:Int) then 4 else (cs.length:Int)) else 1).toNat,?_,?_⟩
  ·split<;>split<;>omega
  ·unfold nD
   congr 1
   split<;>split<;>omega
 obtain⟨m,hm,em⟩:=e0
 have st:d7 17 [D.scr cs]=[some (.scr cs),none,none,none,none,none,none,none,none,none,none,none,none,none,none,none,none]:=rfl
 rw[st]
 simp only[bj,List.getElem?_cons_zero,Option.join_some,um,aD,aL,GF,GK,GJ,em,rg m (by omega),kW]
 refine Rn.bind (cZ (Iz cs) _ 0 _ _ ⟨_,_,_,_,_,_,_,_,_,_,_,_,_,_,_,_,rfl⟩ (fun j d δ M hj hI=>?_)) (fun r M hI=>?_)
 rotate_left
 ·obtain⟨δ',rfl,_⟩:=hI
  rw[hK]
  exact Rn.pure ⟨_,rfl,rfl⟩
 clear hK K
 obtain⟨x1,x2,x3,x4,x5,x6,x7,x8,x9,x10,x11,x12,x13,x14,x15,x16,rfl⟩:=hI
 obtain⟨hk,rfl⟩:=Ce hj
 revert hk
 generalize 0+j+1=nx
 generalize j=k
 intro hk
 rw[ul,aD]
 obtain⟨c,ec⟩:=El cs k
 obtain⟨v,ev⟩:=Gu c
 -- the pot
 refine aM fun K hK=>?_
 simp[ec,ev]
 refine Rn.cG (by simp) ?_
 have hp0:cO M.length (M++[.lst [nD v]]):=⟨v,by simp⟩
 revert hp0
 generalize M.length=p
 generalize M++[.lst [nD v]]=M0
 intro hp0
 rw[hK];clear hK K ec ev
 -- the rows
 refine aM fun K hK=>?_
 simp
 refine Rn.bind (DN (tp:=4) hp0 (by decide) (by decide)) fun d2 M2 ⟨R,W,e2,wk,hR,hW,hp2,s2⟩=>?_
 subst e2
 rw[hK];clear hK K
 have n1:=wk.n1
 have m2:∀x y:D,tV [x,y]=pure (.tup [x,y]):=fun x y=>pI (by simp)
 -- the walk,a lot
 refine aM fun K hK=>?_
 simp[Hj wk,cB,m2,Iu]
 rw[hK];clear hK K
 refine aM fun K hK=>?_
 simp
 refine Rn.bind (yF hp2 n1 (by omega)) fun d3 M3 ⟨a,e3,la,sa,ba,hp3,s3⟩=>?_
 subst e3
 rw[hK];clear hK K s2 s3 hp2
 have hL:qJ a:=⟨by omega,by omega,sa⟩
 have W60:W<2^60:=by omega
 have rg6:jz [.int 6]=some (.fix ((List.range 6).map nD)):=rg 6 (by omega)
 simp only[aD,rg6,um,kW]
 refine (cZ (vH cs k p R W a) _ 0 _ _ ⟨⟨_,_,_,_,_,_,_,_,_,_,rfl⟩,hp3⟩ (fun tn d δ M hj2 hI=>?_)).mono (fun r M hI=>?_)
 rotate_left
 ·obtain⟨δ',rfl,⟨_,_,_,_,_,_,_,_,_,_,rfl⟩,_⟩:=hI
  exact⟨_,rfl,_,_,_,_,_,_,_,_,_,_,_,_,_,_,_,_,rfl⟩
 clear hp0 hp3
 obtain⟨⟨x7,x8,x9,x10,x11,x12,x13,x14,x15,x16,rfl⟩,hp⟩:=hI
 obtain⟨_,rfl⟩:=Ce hj2
 have hQ:∀δ' M',vH cs k p R W a 0 δ' M'->(fun (r:Fl) (M':Mo)=>∃δ',r=.nx δ'∧vH cs k p R W a (0+tn+1) δ' M') (.nx δ') M':=fun δ' M' h=>⟨δ',rfl,h⟩
 revert hQ
 generalize (fun (r:Fl) (M':Mo)=>∃δ',r=.nx δ'∧vH cs k p R W a (0+tn+1) δ' M')=Q
 intro hQ
 rw[ul,aD]
 clear hj hj2 hk
 -- lots
 refine aM fun K hK=>?_
 have m1:∀x:D,tV [x]=pure (.tup [x]):=fun x=>pI (by simp)
 simp[m1,Gz a (by omega),GQ n1 (by omega:R.length≤25),H8]
 refine Rn.bind (yF hp n1 (by omega)) fun d1 M1 ⟨b,e1,lb,sb,bb,hp1,s1⟩=>?_
 subst e1
 have l7:dR [nT a,nT a,nT (a++[1]),nT (List.replicate R.length 0),.lst (a.map nD),.non,nT b]=pure (.lst [nT a,nT a,nT (a++[1]),nT (List.replicate R.length 0),.lst (a.map nD),.non,nT b]):=cW (by simp)
 rw[l7,aD,hK];clear hK K l7 s1
 have hb:qJ b:=⟨by omega,by omega,sb⟩
 have hc:qJ (a++[1]):=⟨by simp,by simp;omega,by simp⟩
 refine aM fun K hK=>?_
 simp
 refine Rn.bind (bL (far:=7) hp1 (by decide) (by decide)) fun d2 M2 ⟨t2,g2,e2,hp2,s2⟩=>?_
 subst e2
 obtain⟨sm,g,u,esm,hk⟩:∃sm g u,[nT a,nT a,nT (a++[1]),nT (List.replicate R.length 0),.lst (a.map nD),.non,nT b][t2]?=some sm∧LotK R sm g u:=by
  have:t2=0∨t2=1∨t2=2∨t2=3∨t2=4∨t2=5∨t2=6:=by omega
  rcases this with rfl | rfl | rfl | rfl | rfl | rfl | rfl
  ·exact⟨_,_,_,rfl,.fit hL (by omega)⟩
  ·exact⟨_,_,_,rfl,.fit hL (by omega)⟩
  ·exact⟨_,_,_,rfl,.long hc (by simp;omega)⟩
  ·exact⟨_,_,_,rfl,.noughts⟩
  ·exact⟨_,_,_,rfl,.lst a⟩
  ·exact⟨_,_,_,rfl,.non⟩
  ·exact⟨_,_,_,rfl,.fit hb (by omega)⟩
 rw[By esm,aD,hK];clear hK K s2 esm
 -- steps
 refine aM fun K hK=>?_
 have ng:(rd (wF (.int 1)):DM D)=pure (.int (-1)):=by funext M;rfl
 have pw:(rd (tZ (.int 10) (.int 11)):DM D)=pure (.int (10^11)):=by funext M;rfl
 have l9:dR [.int 0,.int 1,.int 100,.int 101,.int (-1),.bl true,.non,.str "1",.int (10^11)]=pure (.lst [.int 0,.int 1,.int 100,.int 101,.int (-1),.bl true,.non,.str "1",.int (10^11)]):=cW (by simp)
 simp only[eE,cH,ng,pw,l9,bj,aL]
 refine Rn.bind (bL (far:=9) hp2 (by decide) (by decide)) fun d3 M3 ⟨t3,g3,e3,hp3,s3⟩=>?_
 subst e3
 obtain⟨fr,f,efr,hf⟩:∃fr f,[D.int 0,.int 1,.int 100,.int 101,.int (-1),.bl true,.non,.str "1",.int (10^11)][t3]?=some fr∧FarK fr f:=by
  have:t3=0∨t3=1∨t3=2∨t3=3∨t3=4∨t3=5∨t3=6∨t3=7∨t3=8:=by omega
  rcases this with rfl | rfl | rfl | rfl | rfl | rfl | rfl | rfl | rfl
  ·exact⟨_,_,rfl,.fit (k:=0) (by decide)⟩
  ·exact⟨_,_,rfl,.fit (k:=1) (by decide)⟩
  ·exact⟨_,_,rfl,.fit (k:=100) (by decide)⟩
  ·exact⟨_,_,rfl,.bad (.int _) (by decide)⟩
  ·exact⟨_,_,rfl,.bad (.int _) (by decide)⟩
  ·exact⟨_,_,rfl,.bad (.bl _) rfl⟩
  ·exact⟨_,_,rfl,.bad .non rfl⟩
  ·exact⟨_,_,rfl,.bad (.str _) rfl⟩
  ·exact⟨_,_,rfl,.bad (.int _) (by decide)⟩
 rw[By efr,aD,hK];clear hK K s3 efr l9 pw
 -- places
 refine aM fun K hK=>?_
 have sbn:(rd (wZ (nD R.length) (.int 1)):DM D)=pure (.int ((R.length:Int)-1)):=by funext M;rfl
 have l8:dR [.int 0,.int ((R.length:Int)-1),nD R.length,.int (-1),.bl true,.non,.str "0",.tup [.int 0]]=pure (.lst [.int 0,.int ((R.length:Int)-1),nD R.length,.int (-1),.bl true,.non,.str "0",.tup [.int 0]]):=cW (by simp)
 have l3:dR [.int 0,nD R.length,.non]=pure (.lst [.int 0,nD R.length,.non]):=cW (by simp)
 simp only[eE,cH,ng,sbn,m1,l8,bj,aL]
 refine Rn.bind (bL (far:=8) hp3 (by decide) (by decide)) fun d4 M4 ⟨t4,g4,e4,hp4,s4⟩=>?_
 subst e4
 obtain⟨px,epx,hx⟩:∃px,[D.int 0,.int ((R.length:Int)-1),nD R.length,.int (-1),.bl true,.non,.str "0",.tup [.int 0]][t4]?=some px∧Sim px:=by
  have:t4=0∨t4=1∨t4=2∨t4=3∨t4=4∨t4=5∨t4=6∨t4=7:=by omega
  rcases this with rfl | rfl | rfl | rfl | rfl | rfl | rfl | rfl
  ·exact⟨_,rfl,.int _⟩
  ·exact⟨_,rfl,.int _⟩
  ·exact⟨_,rfl,.int _⟩
  ·exact⟨_,rfl,.int _⟩
  ·exact⟨_,rfl,.bl _⟩
  ·exact⟨_,rfl,.non⟩
  ·exact⟨_,rfl,.str _⟩
  ·exact⟨_,rfl,.tup _⟩
 rw[By epx,aD,l3,aD]
 refine Rn.bind (bL (far:=3) hp4 (by decide) (by decide)) fun d5 M5 ⟨t5,g5,e5,hp5,s5⟩=>?_
 subst e5
 obtain⟨py,epy,hy⟩:∃py,[D.int 0,nD R.length,.non][t5]?=some py∧Sim py:=by
  have:t5=0∨t5=1∨t5=2:=by omega
  rcases this with rfl | rfl | rfl
  ·exact⟨_,rfl,.int _⟩
  ·exact⟨_,rfl,.int _⟩
  ·exact⟨_,rfl,.non⟩
 rw[By epy,aD,m2,aD,Iu,aD,hK];clear hK K s4 s5 epx epy l8 l3
 -- fine
 refine aM fun K hK=>?_
 simp[hf.wi]
 rw[hK];clear hK K
 -- good
 refine aM fun K hK=>?_
 simp only[eE,cH,bj,aL]
 rw[Jd hk,hK];clear hK K
 -- due
 refine aM fun K hK=>?_
 simp only[eE,cH,bj,aL,m2]
 have q3:dR [.tup [.str "lot",.bl g],.tup [.str "unlike",.bl u],.tup [.str "steps",.bl f]]=pure (.lst [.tup [.str "lot",.bl g],.tup [.str "unlike",.bl u],.tup [.str "steps",.bl f]]):=cW (by simp)
 rw[Jy hk hR,q3,aD,Ir,aD,hK];clear hK K q3
 -- after
 refine aM fun K hK=>?_
 simp only[eE,cH,bz,List.map_cons,List.map_nil,bj,Option.getD_some,aL,gF (m := "after") (by decide),List.length_cons,List.length_nil]
 rw[if_pos trivial,show aQ R W::([sm]++[fr])=[aQ R W,sm,fr] from rfl,Hs wk W60 hR hk hf,aD]
 unfold word
 simp only[wL,aD,eX,decide_true,Bool.not_true,Bool.false_eq_true,if_false]
 rw[hK];clear hK K
 -- power
 have q1:dR [.tup [.str "steps",.bl f]]=pure (.lst [.tup [.str "steps",.bl f]]):=cW (by simp)
 refine aM fun K hK=>?_
 simp only[eE,cH,bz,List.map_cons,List.map_nil,bj,Option.getD_some,aL,gF (m := "power") (by decide),Hu wk W60 hf,m2,q1,JK,wL,eX,decide_true,Bool.not_true,Bool.false_eq_true,if_false]
 rw[hK];clear hK K
 -- chance
 have w1:=pR hx ((R.length:Int)-1)
 have w2:=pR hy ((R.length:Int)-1)
 have q3:dR [.tup [.str "place",.bl (wh ((R.length:Int)-1) px)],.tup [.str "place",.bl (wh ((R.length:Int)-1) py)],.tup [.str "steps",.bl f]]=pure (.lst [.tup [.str "place",.bl (wh ((R.length:Int)-1) px)],.tup [.str "place",.bl (wh ((R.length:Int)-1) py)],.tup [.str "steps",.bl f]]):=cW (by simp)
 refine aM fun K hK=>?_
 simp only[eE,cH,bj,aL,sbn,w1,w2,m2,q3]
 rw[hK];clear hK K
 simp only[eE,cH,bz,List.map_cons,List.map_nil,bj,Option.getD_some,aL,gF (m := "chance") (by decide),List.length_cons,List.length_nil,if_true]
 rw[show aQ R W::([px,py]++[fr])=[aQ R W,px,py,fr] from rfl,Ht wk hW hR hx hy hf,aD,Ir,aD]
 simp only[wL,aD,eX,decide_true,Bool.not_true,Bool.false_eq_true,if_false]
 exact Rn.pure (hQ _ _ ⟨⟨_,_,_,_,_,_,_,_,_,_,rfl⟩,hp5⟩)
def BL(K:PySem.W.Frag):Bool:=K.all fun p=>!(p.2.cls==.type "list")
theorem Ge {K:PySem.W.Frag} (h:BL K=true) {a:Addr}{o:Obj} (e:K.lookup a=some o):o.cls≠.type "list":=by
 have:∀ (l:List (Addr×Obj)),(l.all fun p=>!(p.2.cls == .type "list"))=true->l.lookup a=some o->o.cls≠.type "list":=by
  intro l
  induction l with
  |nil=>intro _ e;cases e
  | cons p l ih=>
    intro h e
    rw[List.all_cons,Bool.and_eq_true] at h
    rw[List.lookup_cons] at e
    split at e
    ·cases e
     intro z
     rw[z] at h
     exact absurd h.1 (by decide)
    ·exact ih h.2 e
 exact this K h e
structure Cls(K:PySem.W.Frag)(mg:Str->Option Value)(CE_NoLot CE_Unlike CE_NoSteps CE_NoPlace CE_BadWalk CE_NoNumber CE0 CC_Walk:Addr)(tg_MOST_PLACES tg_MOST_STEPS:Tok):Prop where
 t:XTab K mg fH CE0
 m_FadeError:mg "FadeError"=some (.ref CE0)
 m_NoLot:mg "NoLot"=some (.ref CE_NoLot)
 m_NoNumber:mg "NoNumber"=some (.ref CE_NoNumber)
 m_NoPlace:mg "NoPlace"=some (.ref CE_NoPlace)
 m_NoSteps:mg "NoSteps"=some (.ref CE_NoSteps)
 m_Unlike:mg "Unlike"=some (.ref CE_Unlike)
 m_MOST_PLACES:mg "MOST_PLACES"=some (.int 25 tg_MOST_PLACES)
 m_MOST_STEPS:mg "MOST_STEPS"=some (.int 100 tg_MOST_STEPS)
 o_Walk:OCls K mg "Walk" CC_Walk ["rows", "whole"]
 k_Walk:PySem.W.makesIn K CC_Walk=true∧PySem.W.keepIn K (.ref CC_Walk)=true
 nl:BL K=true
theorem En{K:PySem.W.Frag}{h:Heap}{mg:Str->Option Value}(X:K.In h)(G:h.Ns mainGlobals mg){CE_NoLot CE_Unlike CE_NoSteps CE_NoPlace CE_BadWalk CE_NoNumber CE0 CC_Walk:Addr}{tg_MOST_PLACES tg_MOST_STEPS:Tok}
  (cE0:PySem.W.nsIn K mainGlobals "FadeError"=some (some (.ref CE0)))
  (c_NoLot:PySem.W.nsIn K mainGlobals "NoLot"=some (some (.ref CE_NoLot)))
  (c_Unlike:PySem.W.nsIn K mainGlobals "Unlike"=some (some (.ref CE_Unlike)))
  (c_NoSteps:PySem.W.nsIn K mainGlobals "NoSteps"=some (some (.ref CE_NoSteps)))
  (c_NoPlace:PySem.W.nsIn K mainGlobals "NoPlace"=some (some (.ref CE_NoPlace)))
  (c_BadWalk:PySem.W.nsIn K mainGlobals "BadWalk"=some (some (.ref CE_BadWalk)))
  (c_NoNumber:PySem.W.nsIn K mainGlobals "NoNumber"=some (some (.ref CE_NoNumber)))
  (eE0:PySem.W.excIn K CE0 gZ "ValueError.__new__"=true)
  (e_NoLot:PySem.W.excIn K CE_NoLot gZ "ValueError.__new__"=true)
  (s_NoLot:PySem.W.mroIn K CE_NoLot (.ref CE0)=some true)
  (x1_NoLot:PySem.W.findIn K (.ref CE_NoLot) "__getattribute__"=some (some (.builtin "BaseException.__getattribute__")))
  (x2_NoLot:PySem.W.findIn K (.ref CE_NoLot) "__getattr__"=some none)
  (x3_NoLot:PySem.W.findIn K (.ref CE_NoLot) "__class__"=some (some (.builtin "object.__class__")))
  (x4_NoLot:PySem.W.mroIn K CE_NoLot (.type "object")=some true)
  (x5_NoLot:PySem.W.mroIn K CE_NoLot (.type "BaseException")=some true)
  (e_Unlike:PySem.W.excIn K CE_Unlike gZ "ValueError.__new__"=true)
  (s_Unlike:PySem.W.mroIn K CE_Unlike (.ref CE0)=some true)
  (x1_Unlike:PySem.W.findIn K (.ref CE_Unlike) "__getattribute__"=some (some (.builtin "BaseException.__getattribute__")))
  (x2_Unlike:PySem.W.findIn K (.ref CE_Unlike) "__getattr__"=some none)
  (x3_Unlike:PySem.W.findIn K (.ref CE_Unlike) "__class__"=some (some (.builtin "object.__class__")))
  (x4_Unlike:PySem.W.mroIn K CE_Unlike (.type "object")=some true)
  (x5_Unlike:PySem.W.mroIn K CE_Unlike (.type "BaseException")=some true)
  (e_NoSteps:PySem.W.excIn K CE_NoSteps gZ "ValueError.__new__"=true)
  (s_NoSteps:PySem.W.mroIn K CE_NoSteps (.ref CE0)=some true)
  (x1_NoSteps:PySem.W.findIn K (.ref CE_NoSteps) "__getattribute__"=some (some (.builtin "BaseException.__getattribute__")))
  (x2_NoSteps:PySem.W.findIn K (.ref CE_NoSteps) "__getattr__"=some none)
  (x3_NoSteps:PySem.W.findIn K (.ref CE_NoSteps) "__class__"=some (some (.builtin "object.__class__")))
  (x4_NoSteps:PySem.W.mroIn K CE_NoSteps (.type "object")=some true)
  (x5_NoSteps:PySem.W.mroIn K CE_NoSteps (.type "BaseException")=some true)
  (e_NoPlace:PySem.W.excIn K CE_NoPlace gZ "ValueError.__new__"=true)
  (s_NoPlace:PySem.W.mroIn K CE_NoPlace (.ref CE0)=some true)
  (x1_NoPlace:PySem.W.findIn K (.ref CE_NoPlace) "__getattribute__"=some (some (.builtin "BaseException.__getattribute__")))
  (x2_NoPlace:PySem.W.findIn K (.ref CE_NoPlace) "__getattr__"=some none)
  (x3_NoPlace:PySem.W.findIn K (.ref CE_NoPlace) "__class__"=some (some (.builtin "object.__class__")))
  (x4_NoPlace:PySem.W.mroIn K CE_NoPlace (.type "object")=some true)
  (x5_NoPlace:PySem.W.mroIn K CE_NoPlace (.type "BaseException")=some true)
  (e_BadWalk:PySem.W.excIn K CE_BadWalk gZ "ValueError.__new__"=true)
  (s_BadWalk:PySem.W.mroIn K CE_BadWalk (.ref CE0)=some true)
  (x1_BadWalk:PySem.W.findIn K (.ref CE_BadWalk) "__getattribute__"=some (some (.builtin "BaseException.__getattribute__")))
  (x2_BadWalk:PySem.W.findIn K (.ref CE_BadWalk) "__getattr__"=some none)
  (x3_BadWalk:PySem.W.findIn K (.ref CE_BadWalk) "__class__"=some (some (.builtin "object.__class__")))
  (x4_BadWalk:PySem.W.mroIn K CE_BadWalk (.type "object")=some true)
  (x5_BadWalk:PySem.W.mroIn K CE_BadWalk (.type "BaseException")=some true)
  (e_NoNumber:PySem.W.excIn K CE_NoNumber gZ "ValueError.__new__"=true)
  (s_NoNumber:PySem.W.mroIn K CE_NoNumber (.ref CE0)=some true)
  (x1_NoNumber:PySem.W.findIn K (.ref CE_NoNumber) "__getattribute__"=some (some (.builtin "BaseException.__getattribute__")))
  (x2_NoNumber:PySem.W.findIn K (.ref CE_NoNumber) "__getattr__"=some none)
  (x3_NoNumber:PySem.W.findIn K (.ref CE_NoNumber) "__class__"=some (some (.builtin "object.__class__")))
  (x4_NoNumber:PySem.W.mroIn K CE_NoNumber (.type "object")=some true)
  (x5_NoNumber:PySem.W.mroIn K CE_NoNumber (.type "BaseException")=some true)
  (v_NoLot_NoLot:PySem.W.kitOne K (.ref CE_NoLot) (.ref CE_NoLot)=some true)
  (v_NoLot_Unlike:PySem.W.kitOne K (.ref CE_NoLot) (.ref CE_Unlike)=some false)
  (v_NoLot_NoSteps:PySem.W.kitOne K (.ref CE_NoLot) (.ref CE_NoSteps)=some false)
  (v_NoLot_NoPlace:PySem.W.kitOne K (.ref CE_NoLot) (.ref CE_NoPlace)=some false)
  (v_NoLot_BadWalk:PySem.W.kitOne K (.ref CE_NoLot) (.ref CE_BadWalk)=some false)
  (v_NoLot_NoNumber:PySem.W.kitOne K (.ref CE_NoLot) (.ref CE_NoNumber)=some false)
  (v_Unlike_NoLot:PySem.W.kitOne K (.ref CE_Unlike) (.ref CE_NoLot)=some false)
  (v_Unlike_Unlike:PySem.W.kitOne K (.ref CE_Unlike) (.ref CE_Unlike)=some true)
  (v_Unlike_NoSteps:PySem.W.kitOne K (.ref CE_Unlike) (.ref CE_NoSteps)=some false)
  (v_Unlike_NoPlace:PySem.W.kitOne K (.ref CE_Unlike) (.ref CE_NoPlace)=some false)
  (v_Unlike_BadWalk:PySem.W.kitOne K (.ref CE_Unlike) (.ref CE_BadWalk)=some false)
  (v_Unlike_NoNumber:PySem.W.kitOne K (.ref CE_Unlike) (.ref CE_NoNumber)=some false)
  (v_NoSteps_NoLot:PySem.W.kitOne K (.ref CE_NoSteps) (.ref CE_NoLot)=some false)
  (v_NoSteps_Unlike:PySem.W.kitOne K (.ref CE_NoSteps) (.ref CE_Unlike)=some false)
  (v_NoSteps_NoSteps:PySem.W.kitOne K (.ref CE_NoSteps) (.ref CE_NoSteps)=some true)
  (v_NoSteps_NoPlace:PySem.W.kitOne K (.ref CE_NoSteps) (.ref CE_NoPlace)=some false)
  (v_NoSteps_BadWalk:PySem.W.kitOne K (.ref CE_NoSteps) (.ref CE_BadWalk)=some false)
  (v_NoSteps_NoNumber:PySem.W.kitOne K (.ref CE_NoSteps) (.ref CE_NoNumber)=some false)
  (v_NoPlace_NoLot:PySem.W.kitOne K (.ref CE_NoPlace) (.ref CE_NoLot)=some false)
  (v_NoPlace_Unlike:PySem.W.kitOne K (.ref CE_NoPlace) (.ref CE_Unlike)=some false)
  (v_NoPlace_NoSteps:PySem.W.kitOne K (.ref CE_NoPlace) (.ref CE_NoSteps)=some false)
  (v_NoPlace_NoPlace:PySem.W.kitOne K (.ref CE_NoPlace) (.ref CE_NoPlace)=some true)
  (v_NoPlace_BadWalk:PySem.W.kitOne K (.ref CE_NoPlace) (.ref CE_BadWalk)=some false)
  (v_NoPlace_NoNumber:PySem.W.kitOne K (.ref CE_NoPlace) (.ref CE_NoNumber)=some false)
  (v_BadWalk_NoLot:PySem.W.kitOne K (.ref CE_BadWalk) (.ref CE_NoLot)=some false)
  (v_BadWalk_Unlike:PySem.W.kitOne K (.ref CE_BadWalk) (.ref CE_Unlike)=some false)
  (v_BadWalk_NoSteps:PySem.W.kitOne K (.ref CE_BadWalk) (.ref CE_NoSteps)=some false)
  (v_BadWalk_NoPlace:PySem.W.kitOne K (.ref CE_BadWalk) (.ref CE_NoPlace)=some false)
  (v_BadWalk_BadWalk:PySem.W.kitOne K (.ref CE_BadWalk) (.ref CE_BadWalk)=some true)
  (v_BadWalk_NoNumber:PySem.W.kitOne K (.ref CE_BadWalk) (.ref CE_NoNumber)=some false)
  (v_NoNumber_NoLot:PySem.W.kitOne K (.ref CE_NoNumber) (.ref CE_NoLot)=some false)
  (v_NoNumber_Unlike:PySem.W.kitOne K (.ref CE_NoNumber) (.ref CE_Unlike)=some false)
  (v_NoNumber_NoSteps:PySem.W.kitOne K (.ref CE_NoNumber) (.ref CE_NoSteps)=some false)
  (v_NoNumber_NoPlace:PySem.W.kitOne K (.ref CE_NoNumber) (.ref CE_NoPlace)=some false)
  (v_NoNumber_BadWalk:PySem.W.kitOne K (.ref CE_NoNumber) (.ref CE_BadWalk)=some false)
  (v_NoNumber_NoNumber:PySem.W.kitOne K (.ref CE_NoNumber) (.ref CE_NoNumber)=some true)
  (g_MOST_PLACES:PySem.W.nsIn K mainGlobals "MOST_PLACES"=some (some (.int 25 tg_MOST_PLACES)))
  (g_MOST_STEPS:PySem.W.nsIn K mainGlobals "MOST_STEPS"=some (some (.int 100 tg_MOST_STEPS)))
  (cm_Walk:PySem.W.nsIn K mainGlobals "Walk"=some (some (.ref CC_Walk)))
  (pg_Walk:PySem.W.plainGet K CC_Walk Str.empty=true)
  (hd_Walk:PySem.W.hasDictIn K CC_Walk=true)
  (po_Walk:PySem.W.plainOver K CC_Walk=true)
  (sa_Walk:PySem.W.findIn K (.ref CC_Walk) "__setattr__"=some (some (.builtin "object.__setattr__")))
  (mk_Walk:PySem.W.makesIn K CC_Walk=true)
  (kc_Walk:PySem.W.keepIn K (.ref CC_Walk)=true)
  (nf_Walk_rows:PySem.W.findIn K (.ref CC_Walk) "rows"=some none)
  (nf_Walk_whole:PySem.W.findIn K (.ref CC_Walk) "whole"=some none)
  (nl:BL K=true)
  : Cls K mg CE_NoLot CE_Unlike CE_NoSteps CE_NoPlace CE_BadWalk CE_NoNumber CE0 CC_Walk tg_MOST_PLACES tg_MOST_STEPS:=by
 have m_NoLot:=PySem.W.mg_of X G c_NoLot
 have m_Unlike:=PySem.W.mg_of X G c_Unlike
 have m_NoSteps:=PySem.W.mg_of X G c_NoSteps
 have m_NoPlace:=PySem.W.mg_of X G c_NoPlace
 have m_BadWalk:=PySem.W.mg_of X G c_BadWalk
 have m_NoNumber:=PySem.W.mg_of X G c_NoNumber
 have nof_Walk:∀f∈(["rows", "whole"]:List Str),NoAttr K CC_Walk f:=by
  intro f hf
  simp only[List.mem_cons,List.not_mem_nil,or_false] at hf
  rcases hf with rfl | rfl
  ·exact nf_Walk_rows
  ·exact nf_Walk_whole
 refine⟨⟨fun a ha=>?_,fun a ha b hb C D hC hD=>?_⟩,PySem.W.mg_of X G cE0,m_NoLot,m_NoNumber,m_NoPlace,m_NoSteps,m_Unlike,PySem.W.mg_of X G g_MOST_PLACES,PySem.W.mg_of X G g_MOST_STEPS,⟨PySem.W.mg_of X G cm_Walk,⟨pg_Walk,hd_Walk,po_Walk,sa_Walk⟩,nof_Walk⟩,⟨mk_Walk,kc_Walk⟩,nl⟩
 ·simp only[List.mem_cons,List.not_mem_nil,or_false] at ha
  rcases ha with rfl | rfl | rfl | rfl | rfl | rfl
  ·exact⟨CE_NoLot,⟨m_NoLot,e_NoLot⟩,⟨x1_NoLot,x2_NoLot,x3_NoLot,x4_NoLot,x5_NoLot⟩,⟨e_NoLot,eE0,s_NoLot⟩⟩
  ·exact⟨CE_Unlike,⟨m_Unlike,e_Unlike⟩,⟨x1_Unlike,x2_Unlike,x3_Unlike,x4_Unlike,x5_Unlike⟩,⟨e_Unlike,eE0,s_Unlike⟩⟩
  ·exact⟨CE_NoSteps,⟨m_NoSteps,e_NoSteps⟩,⟨x1_NoSteps,x2_NoSteps,x3_NoSteps,x4_NoSteps,x5_NoSteps⟩,⟨e_NoSteps,eE0,s_NoSteps⟩⟩
  ·exact⟨CE_NoPlace,⟨m_NoPlace,e_NoPlace⟩,⟨x1_NoPlace,x2_NoPlace,x3_NoPlace,x4_NoPlace,x5_NoPlace⟩,⟨e_NoPlace,eE0,s_NoPlace⟩⟩
  ·exact⟨CE_BadWalk,⟨m_BadWalk,e_BadWalk⟩,⟨x1_BadWalk,x2_BadWalk,x3_BadWalk,x4_BadWalk,x5_BadWalk⟩,⟨e_BadWalk,eE0,s_BadWalk⟩⟩
  ·exact⟨CE_NoNumber,⟨m_NoNumber,e_NoNumber⟩,⟨x1_NoNumber,x2_NoNumber,x3_NoNumber,x4_NoNumber,x5_NoNumber⟩,⟨e_NoNumber,eE0,s_NoNumber⟩⟩
 ·simp only[List.mem_cons,List.not_mem_nil,or_false] at ha hb
  rcases ha with rfl | rfl | rfl | rfl | rfl | rfl<;>rcases hb with rfl | rfl | rfl | rfl | rfl | rfl
  ·rw[m_NoLot] at hC;rw[m_NoLot] at hD;cases hC;cases hD;exact v_NoLot_NoLot
  ·rw[m_NoLot] at hC;rw[m_Unlike] at hD;cases hC;cases hD;exact v_NoLot_Unlike
  ·rw[m_NoLot] at hC;rw[m_NoSteps] at hD;cases hC;cases hD;exact v_NoLot_NoSteps
  ·rw[m_NoLot] at hC;rw[m_NoPlace] at hD;cases hC;cases hD;exact v_NoLot_NoPlace
  ·rw[m_NoLot] at hC;rw[m_BadWalk] at hD;cases hC;cases hD;exact v_NoLot_BadWalk
  ·rw[m_NoLot] at hC;rw[m_NoNumber] at hD;cases hC;cases hD;exact v_NoLot_NoNumber
  ·rw[m_Unlike] at hC;rw[m_NoLot] at hD;cases hC;cases hD;exact v_Unlike_NoLot
  ·rw[m_Unlike] at hC;rw[m_Unlike] at hD;cases hC;cases hD;exact v_Unlike_Unlike
  ·rw[m_Unlike] at hC;rw[m_NoSteps] at hD;cases hC;cases hD;exact v_Unlike_NoSteps
  ·rw[m_Unlike] at hC;rw[m_NoPlace] at hD;cases hC;cases hD;exact v_Unlike_NoPlace
  ·rw[m_Unlike] at hC;rw[m_BadWalk] at hD;cases hC;cases hD;exact v_Unlike_BadWalk
  ·rw[m_Unlike] at hC;rw[m_NoNumber] at hD;cases hC;cases hD;exact v_Unlike_NoNumber
  ·rw[m_NoSteps] at hC;rw[m_NoLot] at hD;cases hC;cases hD;exact v_NoSteps_NoLot
  ·rw[m_NoSteps] at hC;rw[m_Unlike] at hD;cases hC;cases hD;exact v_NoSteps_Unlike
  ·rw[m_NoSteps] at hC;rw[m_NoSteps] at hD;cases hC;cases hD;exact v_NoSteps_NoSteps
  ·rw[m_NoSteps] at hC;rw[m_NoPlace] at hD;cases hC;cases hD;exact v_NoSteps_NoPlace
  ·rw[m_NoSteps] at hC;rw[m_BadWalk] at hD;cases hC;cases hD;exact v_NoSteps_BadWalk
  ·rw[m_NoSteps] at hC;rw[m_NoNumber] at hD;cases hC;cases hD;exact v_NoSteps_NoNumber
  ·rw[m_NoPlace] at hC;rw[m_NoLot] at hD;cases hC;cases hD;exact v_NoPlace_NoLot
  ·rw[m_NoPlace] at hC;rw[m_Unlike] at hD;cases hC;cases hD;exact v_NoPlace_Unlike
  ·rw[m_NoPlace] at hC;rw[m_NoSteps] at hD;cases hC;cases hD;exact v_NoPlace_NoSteps
  ·rw[m_NoPlace] at hC;rw[m_NoPlace] at hD;cases hC;cases hD;exact v_NoPlace_NoPlace
  ·rw[m_NoPlace] at hC;rw[m_BadWalk] at hD;cases hC;cases hD;exact v_NoPlace_BadWalk
  ·rw[m_NoPlace] at hC;rw[m_NoNumber] at hD;cases hC;cases hD;exact v_NoPlace_NoNumber
  ·rw[m_BadWalk] at hC;rw[m_NoLot] at hD;cases hC;cases hD;exact v_BadWalk_NoLot
  ·rw[m_BadWalk] at hC;rw[m_Unlike] at hD;cases hC;cases hD;exact v_BadWalk_Unlike
  ·rw[m_BadWalk] at hC;rw[m_NoSteps] at hD;cases hC;cases hD;exact v_BadWalk_NoSteps
  ·rw[m_BadWalk] at hC;rw[m_NoPlace] at hD;cases hC;cases hD;exact v_BadWalk_NoPlace
  ·rw[m_BadWalk] at hC;rw[m_BadWalk] at hD;cases hC;cases hD;exact v_BadWalk_BadWalk
  ·rw[m_BadWalk] at hC;rw[m_NoNumber] at hD;cases hC;cases hD;exact v_BadWalk_NoNumber
  ·rw[m_NoNumber] at hC;rw[m_NoLot] at hD;cases hC;cases hD;exact v_NoNumber_NoLot
  ·rw[m_NoNumber] at hC;rw[m_Unlike] at hD;cases hC;cases hD;exact v_NoNumber_Unlike
  ·rw[m_NoNumber] at hC;rw[m_NoSteps] at hD;cases hC;cases hD;exact v_NoNumber_NoSteps
  ·rw[m_NoNumber] at hC;rw[m_NoPlace] at hD;cases hC;cases hD;exact v_NoNumber_NoPlace
  ·rw[m_NoNumber] at hC;rw[m_BadWalk] at hD;cases hC;cases hD;exact v_NoNumber_BadWalk
  ·rw[m_NoNumber] at hC;rw[m_NoNumber] at hD;cases hC;cases hD;exact v_NoNumber_NoNumber
def spLaw(ts:List (Addr×Addr)):Sp:=fun vs H Q _=>∃(a:Addr) (ns:List Int),vs=[.ref a]∧Rd H a (.lst (ns.map V.int))∧ns.length≤63∧(∀q∈ts,H q.2=some (.tbl #[]))∧∀H',Q (.bl true) H'
theorem Ie{mg:Str->Option Value}{ts:List (Addr×Addr)}{vs:List V}{H:Hp}{Q:VK}{E:XK}(h:spLaw ts vs H Q E):vz mg zJ vs H Q E∧∀q∈ts,H q.2=some (.tbl #[]):=by
 obtain⟨a,ns,rfl,rd,hl,ht,q⟩:=h
 obtain⟨d,M',e,ed⟩:=Dc ns (by omega) []
 refine⟨⟨⟨[],[]⟩,[],[.scr ns],.cons (.scr (fun z=>by rcases z with z | z<;>cases z) rd) .nil,⟨rfl,List.nodup_nil,fun n a o h=>by simp at h,fun a h=>by cases h⟩,_,e,fun ρ' H' b x j c=>?_⟩,ht⟩
 subst ed
 cases c
 exact q H'
theorem all_mk{P:Program}{w:World}{K:PySem.W.Frag}{mg:Mg}{fa c_ P_:Addr}{CE_NoLot CE_Unlike CE_NoSteps CE_NoPlace CE_BadWalk CE_NoNumber CE0 CC_Walk:Addr}{tg_MOST_PLACES tg_MOST_STEPS:Tok}(hfa:mg "law"=some (.ref fa)){h:Heap}(X:K.In h)(G:h.Ns mainGlobals mg)(ht_:PySem.W.tabIn K "law"=some (c_,P_))(t0:TD K "is_whole" jF)(t1:TD K "greatest_divider" cL)(t2:TD K "plain_of" jG)(t3:TD K "are_weights" fM)(t4:TD K "are_rows" jD)(t5:TD K "is_place" jE)(t6:TD K "is_lot" nO)(t7:TD K "refuse_no_lot" dZ)(t8:TD K "can_be_walked" dY)(t9:TD K "refuse_no_steps" cT)(t10:MethAt K CC_Walk "__len__" "Walk.__len__" cM)(t11:TD K "refuse_no_place" cR)(t12:TD K "lot_at" nQ)(t13:TD K "stepped" lF)(t14:MethAt K CC_Walk "__init__" "Walk.__init__" dW)(t15:MethAt K CC_Walk "after" "Walk.after" cj)(t16:MethAt K CC_Walk "power" "Walk.power" dX)(t17:MethAt K CC_Walk "chance" "Walk.chance" cX)(t18:TD K "_law_cell_at" eU)(t19:TD K "_law_pot" jB)(t20:TD K "_law_take" iH)(t21:TD K "_law_whole" gW)(t22:TD K "_law_within" fL)(t23:TD K "_law_mixed" gU)(t24:TD K "_law_lot" jA)(t25:TD K "_law_row" jC)(t26:TD K "_law_rows" iG)(t27:TD K "_law_first" gR)(t28:TD K "_law_heard" cJ)(t29:TD K "law" rF)(z0:TB K "abs")(z1:TB K "all")(z2:TB K "any")(z3:TB K "bool")(z4:TB K "int")(z5:TB K "isinstance")(z6:TB K "len")(z7:TB K "list")(z8:TB K "max")(z9:TB K "min")(z10:TB K "range")(z11:TB K "set")(z12:TB K "sorted")(z13:TB K "sum")(z14:TB K "tuple")(z15:TB K "zip")(Z:Cls K mg CE_NoLot CE_Unlike CE_NoSteps CE_NoPlace CE_BadWalk CE_NoNumber CE0 CC_Walk tg_MOST_PLACES tg_MOST_STEPS) :
  ∃fd:FuncData,(∀(s:Shared) (v:Value),BindsTo s fd ⟨[v],[]⟩ [("_law_script",v)])∧∀base:Heap,K.In base->base.Ns mainGlobals mg->(∀q∈[(c_,P_)],TabD mg base q.1 q.2)->FnOk P w K mg base (bw P w) 16 fa fd ["_law_script"] (spLaw [(c_,P_)]):=by
 obtain⟨f,fd,F,m⟩:=(t29 X G).ex
 have e:=hfa.symm.trans m
 cases e
 have hc_:=F.codeC X G m ht_
 refine⟨fd,?_,fun base _ _ TD_=>?_⟩
 ·obtain⟨oc,od,kV,doc,pm,an,cdv,ct,osl,rfl,_⟩:=F.ex
  exact fun s v=>.of_eq rfl
 have yz0:=PySem.W.mg_none_of X G z0
 have yz1:=PySem.W.mg_none_of X G z1
 have yz2:=PySem.W.mg_none_of X G z2
 have yz3:=PySem.W.mg_none_of X G z3
 have yz4:=PySem.W.mg_none_of X G z4
 have yz5:=PySem.W.mg_none_of X G z5
 have yz6:=PySem.W.mg_none_of X G z6
 have yz7:=PySem.W.mg_none_of X G z7
 have yz8:=PySem.W.mg_none_of X G z8
 have yz9:=PySem.W.mg_none_of X G z9
 have yz10:=PySem.W.mg_none_of X G z10
 have yz11:=PySem.W.mg_none_of X G z11
 have yz12:=PySem.W.mg_none_of X G z12
 have yz13:=PySem.W.mg_none_of X G z13
 have yz14:=PySem.W.mg_none_of X G z14
 have yz15:=PySem.W.mg_none_of X G z15
 have D0:DefD P w K mg base _ _ _ mL:=okd (t0 X G) uH ((pG).2 yz3 yz4 yz5)
 have D1:DefD P w K mg base _ _ _ rK:=okn (fun N=>bR N) (t1 X G) eF Hr fun N=>(cI N).2
 have D2:DefD P w K mg base _ _ _ xq:=okd (t2 X G) m7 ((pH rK).2 D1 yz0)
 have D3:DefD P w K mg base _ _ _ qC:=okd (t3 X G) qw ((jT mL).2 D0 yz1 yz5 yz6 yz14)
 have D4:DefD P w K mg base _ _ _ xf:=okd (t4 X G) uF ((pD qC).2 D3 yz1 yz5 yz6 yz14)
 have D5:DefD P w K mg base _ _ _ rM:=okd (t5 X G) uG ((pF mL).2 D0)
 have D6:DefD P w K mg base _ _ _ qD:=okd (t6 X G) zq ((ue qC).2 D3 Z.m_MOST_PLACES yz2 yz5 yz6 yz14)
 have D7:DefD P w K mg base _ _ _ qH:=okd (t7 X G) nU ((iB qD).2 D6 Z.t Z.m_MOST_PLACES)
 have D8:DefD P w K mg base _ _ _ xg:=okd (t8 X G) gY ((iz xf).2 D4 Z.m_MOST_PLACES yz1 yz5 yz6 yz13 yz14)
 have D9:DefD P w K mg base _ _ _ Frs:=okd (t9 X G) lK ((fV mL).2 D0 Z.t Z.m_MOST_STEPS)
 have M10:MethD P w K mg base _ "Walk" _ _ _ _ qF:=yP t10 Z.o_Walk.at_ Z.o_Walk.cls pM ((iT).2 Z.o_Walk yz6)
 have D11:DefD P w K mg base _ _ _ qI:=okd (t11 X G) lJ ((fU rM qF).2 D5 M10 Z.t yz6)
 have D12:DefD P w K mg base _ _ _ rN:=okd (t12 X G) zu ((uf).2 yz10 yz14)
 have D13:DefD P w K mg base _ _ _ xu:=okd (t13 X G) wR ((qY).2 yz6 yz10 yz13 yz14 yz15)
 have M14:MethD P w K mg base _ "Walk" _ _ _ _ Fin:=yP t14 Z.o_Walk.at_ Z.o_Walk.cls nR ((iw xg).2 D8 Z.t Z.m_MOST_PLACES Z.o_Walk yz13)
 have W_Walk:ClsD P w K mg base _ "Walk" rJ:=I8 M14 (fun _ _ _ _ _ _ us hl=>match us,hl with | [_,_],_=>rfl) (fun C hC=>by
  have q:=hC.symm.trans Z.o_Walk.at_
  cases q
  exact Z.k_Walk) Hk
 have M15:MethD P w K mg base _ "Walk" _ _ _ _ cN:=yP t15 Z.o_Walk.at_ Z.o_Walk.cls jU ((gO qH Frs xu).2 D7 D9 D13 Z.t Z.o_Walk yz6 yz10)
 have M16:MethD P w K mg base _ "Walk" _ _ _ _ qG:=yP t16 Z.o_Walk.at_ Z.o_Walk.cls jV ((lA rN cN).2 D12 M15 Z.o_Walk yz6 yz10 yz14)
 have M17:MethD P w K mg base _ "Walk" _ _ _ _ jM:=yP t17 Z.o_Walk.at_ Z.o_Walk.cls iZ ((jQ qI rN xq cN).2 D11 D12 D2 M15 Z.o_Walk yz6 yz13)
 have D18:DefD P w K mg base _ _ _ uI:=okd (t18 X G) pN ((iU).2 yz6)
 have D19:DefD P w K mg base _ _ _ uJ:=okd (t19 X G) m5 ((pB).2 yz10)
 have D20:DefD P w K mg base _ _ _ iI:=okd (t20 X G) lH ((mY).2 )
 have D21:DefD P w K mg base _ _ _ Bo:=okd (t21 X G) rA ((lD).2 yz3 yz4 yz5)
 have D22:DefD P w K mg base _ _ _ uK:=okd (t22 X G) qu ((jR Bo).2 D21)
 have D23:DefD P w K mg base _ _ _ xn:=okd (t23 X G) jX ((gP iI).2 D20 yz6 yz7)
 have D24:DefD P w K mg base _ _ _ xm:=okd (t24 X G) mZ ((pA iI).2 D20 yz10 yz14)
 have D25:DefD P w K mg base _ _ _ xr:=okd (t25 X G) m6 ((pC xn iI).2 D23 D20 yz14)
 have D26:DefD P w K mg base _ _ _ rO:=okd (t26 X G) lG ((iD iI xr).2 D20 D25 yz7 yz10 yz11 yz12 yz14)
 have D27:DefD P w K mg base _ _ _ xj:=okd (t27 X G) rn ((lB).2 )
 have H28:HrdD P w K mg base _ _ jZ:=JM (k:=8) (t28 X G) jW fun hr ht=>(lC).2 Z.t Z.m_NoLot Z.m_NoNumber Z.m_NoPlace Z.m_NoSteps Z.m_Unlike Z.m_FadeError yz5 (by decide) ht hr
 exact ((Ja (P:=P) (w:=w) (base:=base) (ts:=[(c_,P_)]) F zr hc_ fun A outer s H E ht hr=>(wK uI uJ rO xm iI uK xj rJ cN qG jM jZ).2 D18 D19 D26 D24 D20 D22 D27 W_Walk M15 M16 M17 yz5 yz6 yz7 yz8 yz9 yz10 yz13 yz14 H28 (TD_ _ (.head _)) rfl ⟨_,ht _ (.head _)⟩ hr).imp fun vs H Q E h=>Ie h).mono (by decide)
theorem walk {l:PySem.W.OpenLaw}{q:Program}{loose:List Str}{XP:(Str->Option Value)->Heap->Prop}{YP:World->Heap->Prop}{d:DefRec}{K:Params->PySem.W.Frag}{c_ P_:Addr} (hn:l.most=some 63) (hdf:d.params.defaults=[])
  (hY:∀(w:World) (h:Heap),YP w h->(K w.params).In h) (hnl:∀w:World,BL (K w.params)=true) (h1:((PyProof.Rows.recsOf q).find? (fun e=>e.name==("law":Str))).isSome=true) (h2:∀w:World,PySem.W.tabIn (K w.params) "law"=some (c_,P_)) (h3:∀w:World,(K w.params).lookup P_=none)
  (F:∀(w:World) (mg:Str->Option Value) (fa:Addr) (h:Heap),(K w.params).In h->h.Ns mainGlobals mg->mg d.name=some (.ref fa)->
    ∃fd:FuncData,(∀(s:Shared) (u:Value),BindsTo s fd ⟨[u],[]⟩ [("_law_script",u)])∧∀base:Heap,(K w.params).In base->base.Ns mainGlobals mg->(∀q∈[(c_,P_)],TabD mg base q.1 q.2)->FnOk l.prog w (K w.params) mg base (bw l.prog w) 16 fa fd ["_law_script"] (spLaw [(c_,P_)])) :
  PySem.W.WalkO q loose XP YP l.row.toRowW d [] (fun f vs=>PySem.call f vs):=
 L2.Bl (n:=63) (k:=16) (x := "_law_script") (CX:=fun w=>bw l.prog w) (sp:=spLaw) (tn:=[("law",c_,P_)]) hn (by decide) hdf ⟨rfl,by decide,by decide,rfl⟩ hY (fun w a o e=>Ge (hnl w) e) (fun t ht=>by rw[List.mem_singleton.mp ht];exact h1) (fun w t ht=>by rw[List.mem_singleton.mp ht];exact h2 w) (fun w t ht=>by rw[List.mem_singleton.mp ht];exact h3 w) F (fun _ a ns hl hS hH=>⟨a,ns,rfl,hS,hl,hH,fun _=>rfl⟩) fun _ _ _ _ _ z=>by
  obtain⟨_,_,_,_,_,_,_,_,_,_,_,_,_,q⟩:=z
  exact q.elim
end K
open PySem PySem.W PyProof.Rows
set_option maxRecDepth 100000 in
set_option maxHeartbeats 0 in
theorem PySem.Challenge.cw_fadewalk_k06_steps_refused_holds : PySem.Challenge.rw_fadewalk_k06_steps_refused.Holds := by
 w_on;refine T.cut ?_
 k_fill
 refine' K.walk (l:=PySem.Challenge.rw_fadewalk_k06_steps_refused) rfl rfl (fun w h Y=>PySem.W.km_in_of Y) ?nl9 ?h1 ?h2 ?h3 ?F
 case h2=>
  intro w
  refine' L2.zz ?qa ?ql ?qc ?qd ?qe
  case qa=>k_is
  case ql=>k_is
  case qc=>exact rfl
  case qd=>k_is
  case qe=>exact rfl
 case nl9=>intro w;first | k_is | kernel_rfl
 case h1=>decide +kernel
 case h3=>intro w;first | k_is | kernel_rfl
 case F=>
  intro w mg fa h KX G hmg
  refine' K.all_mk hmg KX G ?ht ?t0 ?t1 ?t2 ?t3 ?t4 ?t5 ?t6 ?t7 ?t8 ?t9 ?t10 ?t11 ?t12 ?t13 ?t14 ?t15 ?t16 ?t17 ?t18 ?t19 ?t20 ?t21 ?t22 ?t23 ?t24 ?t25 ?t26 ?t27 ?t28 ?t29 ?z0 ?z1 ?z2 ?z3 ?z4 ?z5 ?z6 ?z7 ?z8 ?z9 ?z10 ?z11 ?z12 ?z13 ?z14 ?z15 (K.En KX G ?cE0 ?c_NoLot ?c_Unlike ?c_NoSteps ?c_NoPlace ?c_BadWalk ?c_NoNumber ?eE0 ?e_NoLot ?s_NoLot ?x1_NoLot ?x2_NoLot ?x3_NoLot ?x4_NoLot ?x5_NoLot ?e_Unlike ?s_Unlike ?x1_Unlike ?x2_Unlike ?x3_Unlike ?x4_Unlike ?x5_Unlike ?e_NoSteps ?s_NoSteps ?x1_NoSteps ?x2_NoSteps ?x3_NoSteps ?x4_NoSteps ?x5_NoSteps ?e_NoPlace ?s_NoPlace ?x1_NoPlace ?x2_NoPlace ?x3_NoPlace ?x4_NoPlace ?x5_NoPlace ?e_BadWalk ?s_BadWalk ?x1_BadWalk ?x2_BadWalk ?x3_BadWalk ?x4_BadWalk ?x5_BadWalk ?e_NoNumber ?s_NoNumber ?x1_NoNumber ?x2_NoNumber ?x3_NoNumber ?x4_NoNumber ?x5_NoNumber ?v_NoLot_NoLot ?v_NoLot_Unlike ?v_NoLot_NoSteps ?v_NoLot_NoPlace ?v_NoLot_BadWalk ?v_NoLot_NoNumber ?v_Unlike_NoLot ?v_Unlike_Unlike ?v_Unlike_NoSteps ?v_Unlike_NoPlace ?v_Unlike_BadWalk ?v_Unlike_NoNumber ?v_NoSteps_NoLot ?v_NoSteps_Unlike ?v_NoSteps_NoSteps ?v_NoSteps_NoPlace ?v_NoSteps_BadWalk ?v_NoSteps_NoNumber ?v_NoPlace_NoLot ?v_NoPlace_Unlike ?v_NoPlace_NoSteps ?v_NoPlace_NoPlace ?v_NoPlace_BadWalk ?v_NoPlace_NoNumber ?v_BadWalk_NoLot ?v_BadWalk_Unlike ?v_BadWalk_NoSteps ?v_BadWalk_NoPlace ?v_BadWalk_BadWalk ?v_BadWalk_NoNumber ?v_NoNumber_NoLot ?v_NoNumber_Unlike ?v_NoNumber_NoSteps ?v_NoNumber_NoPlace ?v_NoNumber_BadWalk ?v_NoNumber_NoNumber ?g_MOST_PLACES ?g_MOST_STEPS ?cm_Walk ?pg_Walk ?hd_Walk ?po_Walk ?sa_Walk ?mk_Walk ?kc_Walk ?nf_Walk_rows ?nf_Walk_whole ?nl)
  case ht=>
   refine' L2.zz ?qa ?ql ?qc ?qd ?qe
   case qa=>k_is
   case ql=>k_is
   case qc=>exact rfl
   case qd=>k_is
   case qe=>exact rfl
  case cm_Walk=>k_is
  case cE0 | c_NoLot | c_Unlike | c_NoSteps | c_NoPlace | c_BadWalk | c_NoNumber | eE0 | e_NoLot | s_NoLot | x1_NoLot | x2_NoLot | x3_NoLot | x4_NoLot | x5_NoLot | e_Unlike | s_Unlike | x1_Unlike | x2_Unlike | x3_Unlike | x4_Unlike | x5_Unlike | e_NoSteps | s_NoSteps | x1_NoSteps | x2_NoSteps | x3_NoSteps | x4_NoSteps | x5_NoSteps | e_NoPlace | s_NoPlace | x1_NoPlace | x2_NoPlace | x3_NoPlace | x4_NoPlace | x5_NoPlace | e_BadWalk | s_BadWalk | x1_BadWalk | x2_BadWalk | x3_BadWalk | x4_BadWalk | x5_BadWalk | e_NoNumber | s_NoNumber | x1_NoNumber | x2_NoNumber | x3_NoNumber | x4_NoNumber | x5_NoNumber | v_NoLot_NoLot | v_NoLot_Unlike | v_NoLot_NoSteps | v_NoLot_NoPlace | v_NoLot_BadWalk | v_NoLot_NoNumber | v_Unlike_NoLot | v_Unlike_Unlike | v_Unlike_NoSteps | v_Unlike_NoPlace | v_Unlike_BadWalk | v_Unlike_NoNumber | v_NoSteps_NoLot | v_NoSteps_Unlike | v_NoSteps_NoSteps | v_NoSteps_NoPlace | v_NoSteps_BadWalk | v_NoSteps_NoNumber | v_NoPlace_NoLot | v_NoPlace_Unlike | v_NoPlace_NoSteps | v_NoPlace_NoPlace | v_NoPlace_BadWalk | v_NoPlace_NoNumber | v_BadWalk_NoLot | v_BadWalk_Unlike | v_BadWalk_NoSteps | v_BadWalk_NoPlace | v_BadWalk_BadWalk | v_BadWalk_NoNumber | v_NoNumber_NoLot | v_NoNumber_Unlike | v_NoNumber_NoSteps | v_NoNumber_NoPlace | v_NoNumber_BadWalk | v_NoNumber_NoNumber | g_MOST_PLACES | g_MOST_STEPS | pg_Walk | hd_Walk | po_Walk | sa_Walk | mk_Walk | kc_Walk | nf_Walk_rows | nf_Walk_whole | nl=>first | k_is | k_exc | kernel_rfl
  case t10 | t14 | t15 | t16 | t17=>apply L2.yK<;>k_is
  case t0 | t1 | t2 | t3 | t4 | t5 | t6 | t7 | t8 | t9 | t11 | t12 | t13 | t18 | t19 | t20 | t21 | t22 | t23 | t24 | t25 | t26 | t27 | t28 | t29=>apply L3.Ij<;>k_is
  case z0 | z1 | z2 | z3 | z4 | z5 | z6 | z7 | z8 | z9 | z10 | z11 | z12 | z13 | z14 | z15=>delta L3.TB;k_is
