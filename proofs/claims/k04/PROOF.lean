import PyProof.Rows.All
import Wide.All
import OpenK.AllK
import Wide.FinOn
import Lean
import PyProof.EqAt
import PyProof.EqKinds
import PyProof.TupleCall
import PyProof.ReprRoads
import PyProof.P3Eq
import PyProof.NeData
import PyProof.ReprLen
import PyProof.Rows.RegStrFacts
import OpenK.KOwn
import PyProof.StationsW
import PyProof.Rows.Catch
import PyProof.Rows.Own
import PyProof.RulesAs
import PyProof.ExcBaseAll.ValueError
import PyProof.NsDelKeeps
import PyProof.ExcArgsOwn
import PyProof.ExcAttrAll.ValueError
import PyProof.CompFree
import PyProof.CompMap
import PyProof.ConsumeWalk
import PyProof.SumWalk
import PyProof.Rows.TupIter
import PyProof.Rows.SumGenD
import PyProof.FString
import PyProof.Rows.FStr
import PyProof.Rows.RuleIs
import PyProof.FactsAll.tuple_iterator_1
import PyProof.FactsAll.tuple_2
import PyProof.FactsAll.list_3
import PyProof.Cells
import PyProof.ZipIter
import PyProof.EnumMake
import PyProof.EnumFor
import PyProof.ListRange
import PyProof.TupleOfSeq
import PyProof.Rows.SetFrom
import PyProof.Rows.SortShell
import PyProof.CollectWalk
import PyProof.FactsAll.set_1
import PyProof.Rows.SortWalk
import PyProof.FactsAll.set_2
import KE.KDictSum
import KE.KSortTup
import PyProof.TupleKey
import PyProof.IsRules
import KE.KTupSum
import PyProof.WalkInts
import PyProof.SeqI3
import PyProof.Conv_int_bool
import PySem.Challenge.RW_fadewalk_k04_walks_known
set_option Elab.async false
set_option maxRecDepth 100000
set_option maxHeartbeats 8000000
namespace T
open PySem PySem.W PyProof.Rows
/-- the top's run over a tree -/
noncomputable def runT (p:Program) (w:World) (m:Nat) (a:Option Value):Nat->SharedT->Thread->Option SharedT
 | 0,_,_=>none
 | n + 1,s,t=>match through t with
   | true=>some s
   | false=>match stepOk m a t with
     | false=>none
     | true=>match stepT (denote treeTable) p w s t with
       | some r=>runT p w m a n r.1 r.2
       | none=>none
theorem run_of {p:Program}{w:World}{m:Nat}{a:Option Value}:∀ {n:Nat}{s s':SharedT}{t:Thread},runT p w m a n s t=some s'->topRun treeTable p w m a n s.abs t=some s'.abs
 | 0,_,_,_,h=>by cases h
 | n + 1,s,s',t,h=>by
   unfold runT at h
   unfold topRun
   cases ht:through t with
   | true=>rw [ht] at h;cases h;rfl
   | false=>
     rw [ht] at h
     cases hk:stepOk m a t with
     | false=>rw [hk] at h;cases h
     | true=>
       rw [hk] at h
       cases hs:stepT (denote treeTable) p w s t with
       | none=>rw [hs] at h;cases h
       | some r=>obtain ⟨s2,t2⟩:=r;rw [hs] at h;rw [stepT_spec hs];exact run_of h
noncomputable def grow:List Obj->Nat->BT->BT
 | [],_,t=>t
 | o::l,n,t=>grow l (n + 1) (t.ins n o)
noncomputable def bootT (B:Heap) (os:OsState):SharedT:=⟨grow B.objs.toList 0 .nil,B.objs.size,B.life,#[],boot_drawn,boot_toks,os⟩
noncomputable def bootA (w:World) (os:OsState):Shared:=⟨boot_heap w.params,#[],boot_drawn,boot_toks,os⟩
theorem boot_abs (w:World) (os:OsState):(bootT (boot_heap w.params) os).abs=bootA w os:=by kernel_rfl
theorem boot_ns (w:World):((boot_heap w.params).isNs mainGlobals && (#[]:Array GenState).size == 0)=true:=by kernel_rfl
noncomputable def chk {α:Type} (p q:Program) (loose:List Str) (Xt:Shared->Bool) (Yf:Shared->α) (N:Nat) (B:Heap) (w:World) (os:OsState):=
 (runT p w B.objs.size (B.nsMap mainGlobals "__annotations__") N (bootT B os) (topStub p)).map fun s=>
   (staticsOk (importedModules p.main.body) B s.abs.heap && namesBound p s.abs.heap && gensDone s.abs && laidKept B s.abs.heap,openSeen q loose (importedModules p.main.body) Xt true s.abs,Yf s.abs)
theorem left {α:Type}{p q:Program}{loose:List Str}{Xt:Shared->Bool}{Yf:Shared->α}{Ya:World->α}{N:Nat} (e:opening p=plainProg p.main.scope.names) (hN:Nat.ble 600 N=true) (f:∀ s,fenceModules? p s=some s)
  (h:∀ (w:World) (os:OsState),chk p q loose Xt Yf N (boot_heap w.params) w os=some (true,openGood q loose,Ya w)):LeftO p q loose Xt Yf Ya N:=fun w=>by
 obtain ⟨⟨hh,gs,d,k,os⟩,e1,e2⟩:=Option.map_eq_some_iff.mp (boot_open (N:=N) e hN f w)
 obtain ⟨rfl,rfl,rfl,rfl⟩:hh=boot_heap w.params∧gs=#[]∧d=boot_drawn∧k=boot_toks:=by simpa using e2
 obtain ⟨s,r1,r2⟩:=Option.map_eq_some_iff.mp (h w os)
 have r:=run_of r1
 rw [boot_abs] at r
 obtain ⟨l1,l2,l3⟩:_∧_∧_:=by simpa only [Prod.mk.injEq] using r2
 unfold openEnds topFrom
 rw [e1]
 show (match (boot_heap w.params).isNs mainGlobals && (#[]:Array GenState).size == 0 with | true=>_ | false=>_:Option Shared).map _=_
 rw [boot_ns]
 show ((topRun treeTable p w (boot_heap w.params).objs.size _ N (bootA w os) (topStub p)).bind _).map _=_
 rw [r]
 show (match staticsOk (importedModules p.main.body) (boot_heap w.params) s.abs.heap && namesBound p s.abs.heap && gensDone s.abs && laidKept (boot_heap w.params) s.abs.heap with | true=>_ | false=>_:Option Shared).map _=_
 rw [l1]
 show some (openSeen q loose (importedModules p.main.body) Xt true s.abs,Yf s.abs)=some _
 rw [l2,l3]
noncomputable def tp (i:Nat):Stmt:=PySem.Challenge.pw_fadewalk_k04_walks_known.main.body.getD i (.Pass ⟨0,0,0,0⟩)
noncomputable def view:Program:={ PySem.Challenge.pw_fadewalk_k04_walks_known with main:={ PySem.Challenge.pw_fadewalk_k04_walks_known.main with body:=[tp 0,tp 2,tp 3,tp 4,tp 5,tp 7,tp 9,tp 10,tp 11,tp 13,tp 14,tp 16,tp 17,tp 18,tp 19,tp 20,tp 21,tp 22,tp 23,tp 24,tp 25,tp 26,tp 27,tp 28] } }
noncomputable def loos:List Str:=["Walk"]
noncomputable def lvs:List (Str×WData):=[]
noncomputable def lhs (B:Heap) (as:List Addr) (w:World) (os:OsState):=chk PySem.Challenge.pw_fadewalk_k04_walks_known view loos (fun s=>xlAt view lvs s && recOk (RowW.records (OpenRow.toRowW (OpenLaw.row PySem.Challenge.rw_fadewalk_k04_walks_known))) s) (fun s=>as.map s.heap.get?) 3788 B w os
noncomputable def rhs (K:Params->Frag) (w:World):=some (true,openGood view loos,(K w.params).map fun p=>some p.2)
lay_quick T.lhs T.rhs
theorem hook {K:Params->Frag}{as:List Addr}{e:∀ P,as=(K P).map (·.1)} (h:∀ (w:World) (os:OsState),PySem.W.Fast.tw12313586583820656202 (boot_heap w.params) as w os=PySem.W.Fast.tw7420988445182104193 K w) :
  LeftO PySem.Challenge.pw_fadewalk_k04_walks_known view loos (fun s=>xlAt view lvs s && recOk (RowW.records (OpenRow.toRowW (OpenLaw.row PySem.Challenge.rw_fadewalk_k04_walks_known))) s) (Hook.obs (kHook K as e)) (Hook.val (kHook K as e)) 3788:=
 left rfl (by decide) (fun _=>rfl) fun w os=>by
  show lhs (boot_heap w.params) as w os=rhs K w
  rw [PySem.W.Fast.te12313586583820656202,PySem.W.Fast.te7420988445182104193]
  exact h w os
local macro_rules
 | `(tactic| o_head $H)=>`(tactic| (
   refine PySem.W.holds_open (q:=T.view) (loose:=T.loos)
    (Xt:=fun s=>PySem.W.xlAt T.view T.lvs s && PySem.W.recOk (PySem.W.RowW.records (PySem.W.OpenRow.toRowW (PySem.W.OpenLaw.row PySem.Challenge.rw_fadewalk_k04_walks_known))) s)
    (XP:=PySem.W.XL T.view T.lvs) (Yf:=PySem.W.Hook.obs $H) (Ya:=PySem.W.Hook.val $H)
    (YP:=PySem.W.Hook.says $H) (N:=3788) ?hl (PySem.W.Hook.of $H) (PySem.W.Hook.keeps $H)
    (fun s e=>PySem.W.xl_of s (Bool.and_eq_true_iff.mp e).1) PySem.W.XL.keeps rfl rfl rfl
    (fun s e=>PySem.W.recFacts_of (Bool.and_eq_true_iff.mp e).2) rfl
    (by first | assumption | decide +kernel) (by decide +kernel)
    ⟨rfl,rfl,rfl,rfl,rfl,by decide +kernel⟩ ?hw ?hc;(case hl=>exact T.hook (fun w os=>by kernel_rfl))))
open_top cut for PySem.Challenge.rw_fadewalk_k04_walks_known
end T
set_option linter.all false
namespace L2
open PySem PySem.Spec PyProof.Rows
abbrev Key:=Sum Int Str
def keyIs:Key->Value->Bool
 |.inl k,v=>Value.isInt k v
 |.inr x,v=>Value.isStrOf x v
def keyH(w:World):Key->Int
 |.inl k=>hashInt k
 |.inr x=>hashStr w x
theorem keyIs_shape:∀ {k:Key}{v:Value},keyIs k v=true->(∃ i t,k=Sum.inl i∧v=Value.int i t)∨(∃ x t,k=Sum.inr x∧v=Value.str x t)
 |.inl i,v,h=>by
   obtain⟨t,e⟩:=Value.isInt_shape (k:=i) (v:=v) h
   exact .inl ⟨i,t,rfl,e⟩
 |.inr x,v,h=>by
   obtain⟨t,e⟩:=Value.isStrOf_shape (x:=x) (v:=v) h
   exact .inr ⟨x,t,rfl,e⟩
theorem keyIs_int(i:Int)(t:Tok):keyIs (.inl i) (.int i t)=true:=by simp[keyIs,Value.isInt]
theorem keyIs_str(x:Str)(t:Tok):keyIs (.inr x) (.str x t)=true:=by simp[keyIs,Value.isStrOf]
theorem key_ll(a b:Int):decide ((Sum.inl a:Key)=Sum.inl b)=(a==b):=by
 by_cases e:a=b
 ·subst e;simp
 ·have h:¬ (Sum.inl a:Key)=Sum.inl b:=fun q=>e (Sum.inl.inj q)
  rw[decide_eq_false h]
  exact (beq_eq_false_iff_ne.mpr e).symm
theorem key_rr(a b:Str):decide ((Sum.inr a:Key)=Sum.inr b)=decide (a=b):=by
 by_cases e:a=b
 ·subst e;simp
 ·have h:¬ (Sum.inr a:Key)=Sum.inr b:=fun q=>e (Sum.inr.inj q)
  rw[decide_eq_false h,decide_eq_false e]
theorem key_lr(a:Int)(b:Str):decide ((Sum.inl a:Key)=Sum.inr b)=false:=decide_eq_false (fun q=>nomatch q)
theorem key_rl(a:Str)(b:Int):decide ((Sum.inr a:Key)=Sum.inl b)=false:=decide_eq_false (fun q=>nomatch q)
def mixKind (prog:Program) (w:World):PySem.KeyKind prog w Key where
 is:=keyIs
 hash:=keyH w
 inj:=fun v a b ha hb=>by
  rcases keyIs_shape ha with ⟨i,t,rfl,rfl⟩ | ⟨x,t,rfl,rfl⟩
  ·rcases keyIs_shape hb with ⟨j,u,rfl,e⟩ | ⟨y,u,rfl,e⟩
   ·injection e with e1 _;rw[e1]
   ·exact nomatch e
  ·rcases keyIs_shape hb with ⟨j,u,rfl,e⟩ | ⟨y,u,rfl,e⟩
   ·exact nomatch e
   ·injection e with e1 _;rw[e1]
 byValue:=fun k v h=>by
  rcases keyIs_shape h with ⟨i,t,rfl,rfl⟩ | ⟨x,t,rfl,rfl⟩<;>rfl
 pyHash:=fun hv h=>by
  rcases keyIs_shape hv with ⟨i,t,rfl,rfl⟩ | ⟨x,t,rfl,rfl⟩
  ·exact wpAny_pyHash_int h
  ·exact wpAny_pyHash_str h
 eqBool:=fun hu hv h=>by
  rcases keyIs_shape hu with ⟨i,t,rfl,rfl⟩ | ⟨x,t,rfl,rfl⟩
  ·rcases keyIs_shape hv with ⟨j,u,rfl,rfl⟩ | ⟨y,u,rfl,rfl⟩
   ·rw[key_ll] at h;exact wpAny_eqBool_int h
   ·rw[key_lr] at h;exact SeqAt.EqAt.int_str i t y u _ _ _ _ h
  ·rcases keyIs_shape hv with ⟨j,u,rfl,rfl⟩ | ⟨y,u,rfl,rfl⟩
   ·rw[key_rl] at h;exact SeqAt.EqAt.str_int x t j u _ _ _ _ h
   ·rw[key_rr] at h;exact wpAny_eqBool_str h
 «strs»:=fun k x t v h=>by
  rcases keyIs_shape h with ⟨i,u,rfl,e⟩ | ⟨y,u,rfl,e⟩
  ·exact nomatch e
  ·injection e with e1 _
   subst e1
   cases v<;>rfl
theorem mixKind_int(prog:Program)(w:World)(i:Int)(t:Tok):(mixKind prog w).is (.inl i) (.int i t)=true:=keyIs_int i t
theorem mixKind_str(prog:Program)(w:World)(x:Str)(t:Tok):(mixKind prog w).is (.inr x) (.str x t)=true:=keyIs_str x t
open PySem PySem.Spec PyProof.Rows
inductive V where
 |non | bl (b:Bool) | int (i:Int) | str (x:Str) | byt (b:Array UInt8) | flt (b:UInt64) | ref (a:Addr) | ty (n:String)
 deriving DecidableEq
def RelV:V->Value->Prop
 |.non,u=>u=Value.none
 |.bl b,u=>u=Value.bool b
 |.int i,u=>∃t,u=Value.int i t
 |.str x,u=>∃t,u=Value.str x t
 |.byt b,u=>∃t,u=Value.bytes b t
 |.flt b,u=>∃t,u=Value.float b t
 |.ref a,u=>u=Value.ref a
 |.ty n,u=>u=Value.type n
abbrev Vals:List V->List Value->Prop:=Paired RelV
theorem Vals.length{xs:List V}{us:List Value}(r:Vals xs us):xs.length=us.length:=Paired.length r
theorem Vals.get:∀ {xs:List V}{us:List Value}{i:Nat}{x:V},Vals xs us->xs[i]?=some x->∃ u,us[i]?=some u∧RelV x u
 |_,_,_,_,.nil,e=>by simp at e
 |_,_,0,_,.cons r _,e=>by simp at e;subst e;exact⟨_,rfl,r⟩
 |_,_,i+1,x,.cons _ t,e=>by
   obtain⟨u,h1,h2⟩:=Vals.get (i:=i) (x:=x) t (by simpa using e)
   exact⟨u,by simpa using h1,h2⟩
theorem Vals.set{x:V}{u:Value}(r:RelV x u):∀{xs:List V}{us:List Value} (i:Nat),Vals xs us->Vals (xs.set i x) (us.set i u)
 |_,_,_,.nil=>.nil
 |_,_,0,.cons _ t=>.cons r t
 |_,_,i+1,.cons q t=>.cons q (Vals.set r i t)
theorem Vals.append:∀{xs ys:List V}{us ws:List Value},Vals xs us->Vals ys ws->Vals (xs++ys) (us++ws)
 |_,_,_,_,.nil,s=>s
 |_,_,_,_,.cons r t,s=>.cons r (Vals.append t s)
theorem Vals.take:∀{xs:List V}{us:List Value} (n:Nat),Vals xs us->Vals (xs.take n) (us.take n)
 |_,_,0,_=>.nil
 |_,_,_+1,.nil=>.nil
 |_,_,n+1,.cons r t=>.cons r (Vals.take n t)
theorem Vals.drop:∀{xs:List V}{us:List Value} (n:Nat),Vals xs us->Vals (xs.drop n) (us.drop n)
 |_,_,0,r=>r
 |_,_,_+1,.nil=>.nil
 |_,_,n+1,.cons _ t=>Vals.drop n t
def RelO:Option V->Option Value->Prop
 |some v,some u=>RelV v u
 |none,none=>True
 |_,_=>False
def KV{κ:Type}:List (κ×V)->List (κ×Value)->Prop:=Paired fun (p:κ×V) (q:κ×Value)=>p.1=q.1∧RelV p.2 q.2
def kV:Key->V
 |.inl i=>.int i
 |.inr x=>.str x
inductive HO where
 /-- a list -/
 |lst (xs:List V)
 /-- a tuple (never changes) -/
 |tup (xs:List V)
 /-- a dict whose keys are ints and texts;one whose keys are tuples of ints and texts (the empty one is both) -/
 |dK (kvs:List (Key×V)) | dT (kvs:List (List Key×V))
 /-- a set of ints: its members,its size -/
 |set (S:Int->Bool) (n:Nat)
 /-- an instance of the class at C,its dict at dx,its attributes -/
 |ins (C dx:Addr) (fs:List (Str×V))
 /-- the dict of the instance at x -/
 |own (x:Addr)
 /-- the dict of an exception -/
 |xd (fs:List (Str×V))
 /-- a bound method,f of x -/
 |met (f x:Addr)
 /-- a range object lo,lo+1,.. below hi -/
 |rng (lo hi:Int)
 /-- a thing that is known to the object (the script;a dict while a loop walks it): read,never written while it is so -/
 |frz (o:Obj) (u:HO)
 /-- a code object's table -/
 |tbl (ps:Array Value)
 /-- any other thing,by what is true of its one object (a def of one's own: SetO a S n:=HO.ext fun h=>..) -/
 |ext (φ:Heap->Prop)
abbrev Hp:=Addr->Option HO
def upd(H:Hp)(a:Addr)(o:HO):Hp:=fun b=>if b=a then some o else H b
theorem upd_same{H:Hp}{a:Addr}{o:HO}:upd H a o a=some o:=by unfold upd;rw[if_pos rfl]
theorem upd_ne{H:Hp}{a b:Addr}{o:HO}(h:b≠a):upd H a o b=H b:=by unfold upd;rw[if_neg h]
theorem upd_upd{H:Hp}{a:Addr}{o u:HO}:upd (upd H a o) a u=upd H a u:=by
 funext b;unfold upd;split<;>rfl
theorem ne_of_none{H:Hp}{a b:Addr}{o:HO}(h:H a=some o)(h':H b=none):a≠b:=by
 intro e;subst e;rw[h] at h';cases h'
section
variable(P:Program)(w:World)
def ObjOk (H:Hp) (h:Heap) (a:Addr):HO->Prop
 |.lst xs=>xs.length≤sizeLine∧∃(its:List Value) (n:Nat),Vals xs its∧h.get? a=some { cls:=.type "list",data:=.seq its.toArray n }
 |.tup xs=>xs.length≤sizeLine∧∃its:List Value,Vals xs its∧IsTup h a its.toArray
 |.dK kvs=>kvs.length≤sizeLine∧(a==sysModules)=false∧∃vs,KV kvs vs∧h.DictOf (mixKind P w) a vs
 |.dT kvs=>kvs.length≤sizeLine∧(a==sysModules)=false∧∃xs:List (List Key×Addr×Value),
   Paired (fun (p:List Key×V) (q:List Key×Addr×Value)=>p.1=q.1∧H q.2.1=some (.tup (p.1.map kV))∧RelV p.2 q.2.2) kvs xs ∧
   ∃o es ep,h.get? a=some o∧o.ExactDict∧o.data=.dict es ep∧es.toList=xs.map (entryOfKey (tupleKind (mixKind P w)))∧(xs.map (·.1)).Nodup
 |.set S n=>h.SetOf (intKind P w) a S n
 |.ins C dx fs=>H dx=some (.own a)∧fs.length≤1000∧dx≠a∧h.get? a=some (PySem.W.instObj C dx) ∧
   ∃mA,h.Ns1 dx mA∧(∀f,RelO (fs.lookup f) (mA f))∧PySem.Within mA (fs.map (·.1))
 |.own _=>∃o,h.get? a=some o
 |.xd fs=>∃mA,h.Ns1 a mA∧∀f,RelO (fs.lookup f) (mA f)
 |.rng lo hi=>∃t u v,h.get? a=some { cls:=.type "range",data:=.fields #[.int lo t,.int hi u,.int 1 v] }
 |.frz o u=>h.get? a=some o∧ObjOk H h a u
 |.tbl ps=>h.get? a=some { cls:=.none,data:=.fields ps }
 |.met f x=>h.get? a=some (PySem.W.methodObj (.ref f) (.ref x))
 |.ext φ=>φ h∧(∃o,h.get? a=some o)∧∀h1 h2:Heap,φ h1->(∀o,h1.get? a=some o->h2.get? a=some o)->φ h2
def HOk(H:Hp)(h:Heap):Prop:=∀a o,H a=some o->ObjOk P w H h a o
end
section
variable{P:Program}{w:World}{H H':Hp}{h h':Heap}{a:Addr}{o:HO}
theorem ObjOk.lt(x:ObjOk P w H h a o):a<h.objs.size:=by
 cases o with
 |lst xs=>obtain⟨_,_,_,_,e⟩:=x;exact Heap.lt_size e
 |tup xs=>obtain⟨_,_,_,p⟩:=x;exact p.lt
 |dK kvs=>obtain⟨_,_,_,_,o,_,_,e,_⟩:=x;exact Heap.lt_size e
 |dT kvs=>obtain⟨_,_,_,_,o,_,_,e,_⟩:=x;exact Heap.lt_size e
 |set S n=>obtain⟨o,_,_,_,e,_⟩:=x;exact Heap.lt_size e
 |ins C dx fs=>obtain⟨_,_,_,e,_⟩:=x;exact Heap.lt_size e
 |own y=>obtain⟨_,e⟩:=x;exact Heap.lt_size e
 |xd fs=>obtain⟨_,⟨_,_,_,e,_⟩,_⟩:=x;exact Heap.lt_size e
 |rng lo hi=>obtain⟨_,_,_,e⟩:=x;exact Heap.lt_size e
 |frz ob u=>obtain⟨e,_⟩:=x;exact Heap.lt_size e
 |tbl ps=>exact Heap.lt_size (show h.get? a=some _ from x)
 |met f y=>exact Heap.lt_size (show h.get? a=some _ from x)
 |ext φ=>obtain⟨_,⟨_,e⟩,_⟩:=x;exact Heap.lt_size e
theorem Paired.mapP{α β:Type}{F G:α->β->Prop}:∀{l₁:List α}{l₂:List β},Paired F l₁ l₂->(∀a b,F a b->G a b)->Paired G l₁ l₂
 |_,_,.nil,_=>.nil
 |_,_,.cons r t,f=>.cons (f _ _ r) (Paired.mapP t f)
theorem ObjOk.stay (x:ObjOk P w H h a o) (k:∀ b u,(b=a∨H b=some (.own a))->h.get? b=some u->h'.get? b=some u)
  (ho:∀b,H b=some (.own a)->H' b=some (.own a)) (ht:∀b xs,H b=some (.tup xs)->H' b=some (.tup xs)):ObjOk P w H' h' a o:=by
 induction o with
 |lst xs=>obtain⟨z,its,n,r,e⟩:=x;exact⟨z,its,n,r,k _ _ (.inl rfl) e⟩
 |tup xs=>obtain⟨z,its,r,ob,e,c⟩:=x;exact⟨z,its,r,ob,k _ _ (.inl rfl) e,c⟩
 |dK kvs=>obtain⟨z,y,vs,r,ob,es,ep,e,c⟩:=x;exact⟨z,y,vs,r,ob,es,ep,k _ _ (.inl rfl) e,c⟩
 |dT kvs=>
   obtain⟨z,y,xs,r,ob,es,ep,e,c⟩:=x
   exact⟨z,y,xs,Paired.mapP r fun p q z=>⟨z.1,ht _ _ z.2.1,z.2.2⟩,ob,es,ep,k _ _ (.inl rfl) e,c⟩
 |set S n=>obtain⟨ob,es,ep,t,e,c⟩:=x;exact⟨ob,es,ep,t,k _ _ (.inl rfl) e,c⟩
 |ins C dx fs=>
   obtain⟨d,z,ne,e,mA,⟨od,es,ep,e2,c⟩,r⟩:=x
   exact⟨ho _ d,z,ne,k _ _ (.inl rfl) e,mA,⟨od,es,ep,k _ _ (.inr d) e2,c⟩,r⟩
 |own y=>obtain⟨ob,e⟩:=x;exact⟨ob,k _ _ (.inl rfl) e⟩
 |xd fs=>obtain⟨mA,⟨od,es,ep,e,c⟩,r⟩:=x;exact⟨mA,⟨od,es,ep,k _ _ (.inl rfl) e,c⟩,r⟩
 |rng lo hi=>obtain⟨t,u,v,e⟩:=x;exact⟨t,u,v,k _ _ (.inl rfl) e⟩
 |frz ob u ih=>obtain⟨e,q⟩:=x;exact⟨k _ _ (.inl rfl) e,ih q⟩
 |tbl ps=>
   have e:h.get? a=some { cls:=.none,data:=.fields ps }:=x
   show h'.get? a=some { cls:=.none,data:=.fields ps }
   exact k a _ (.inl rfl) e
 |met f y=>
   have e:h.get? a=some (PySem.W.methodObj (.ref f) (.ref y)):=x
   show h'.get? a=some (PySem.W.methodObj (.ref f) (.ref y))
   exact k a _ (.inl rfl) e
 |ext φ=>obtain⟨p,⟨o,e⟩,st⟩:=x;exact⟨st _ _ p fun o q=>k _ _ (.inl rfl) q,⟨o,k _ _ (.inl rfl) e⟩,st⟩
theorem HOk.lt(x:HOk P w H h)(e:H a=some o):a<h.objs.size:=(x a o e).lt
theorem HOk.fresh(x:HOk P w H h)(e:h.objs.size≤a):H a=none:=by
 cases q:H a with
 |none=>rfl
 |some u=>exact absurd (Nat.lt_of_lt_of_le (x.lt q) e) (Nat.lt_irrefl _)
theorem HOk.kept(x:HOk P w H h)(k:∀b u,h.get? b=some u->h'.get? b=some u):HOk P w H h':=fun a o e=>
 (x a o e).stay (fun b u _ q=>k b u q) (fun _ q=>q) fun _ _ q=>q
theorem HOk.laid(x:HOk P w H h)(k:∀b u,h.get? b=some u->h'.get? b=some u)(hp:h.objs.size≤a)(new:ObjOk P w (upd H a o) h' a o):HOk P w (upd H a o) h':=fun b u e=>by
 have hn:=x.fresh hp
 by_cases hb:b=a
 ·subst hb;rw[upd_same] at e;cases e;exact new
 ·rw[upd_ne hb] at e
  exact (x b u e).stay (fun c v _ q=>k c v q) (fun c q=>by rw[upd_ne (ne_of_none q hn)];exact q) fun c xs q=>by rw[upd_ne (ne_of_none q hn)];exact q
end
def Rd(H:Hp)(a:Addr)(u:HO):Prop:=H a=some u∨∃o,H a=some (.frz o u)
theorem Rd.ok{P:Program}{w:World}{H:Hp}{h:Heap}{a:Addr}{u:HO}(r:Rd H a u)(x:HOk P w H h):ObjOk P w H h a u:=by
 rcases r with r | ⟨o,r⟩
 ·exact x a u r
 ·obtain⟨_,q⟩:=x a _ r
  exact q
def Mut:Option HO->Prop
 |some (.lst _)=>True
 |some (.dK _)=>True
 |some (.dT _)=>True
 |some (.set _ _)=>True
 |some (.ins _ _ _)=>True
 |some (.ext _)=>True
 |_=>False
section
variable{P:Program}{w:World}{H:Hp}{h h':Heap}{x e:Addr}{o':HO}
theorem HOk.write (ok:HOk P w H h) (mu:Mut (H x)) (he:e=x∨H e=some (.own x)) (k:∀ b u,b≠e->h.get? b=some u->h'.get? b=some u) (heo:∃ u,h'.get? e=some u)
  (new:ObjOk P w (upd H x o') h' x o'):HOk P w (upd H x o') h':=fun b u q=>by
 have nown:∀c y,H c=some (.own y)->c≠x:=fun c y r z=>by subst z;rw[r] at mu;exact mu
 have ntup:∀c xs,H c=some (.tup xs)->c≠x:=fun c xs r z=>by subst z;rw[r] at mu;exact mu
 by_cases hb:b=x
 ·subst hb;rw[upd_same] at q;cases q;exact new
 ·rw [upd_ne hb] at q
  by_cases hbe:b=e
  ·have q':H b=some (.own x):=by
    rcases he with z | z
    ·exact absurd (hbe.trans z) hb
    ·rw[hbe];exact z
   rw[q] at q';cases q'
   obtain⟨v,hv⟩:=heo
   exact⟨v,by rw[hbe];exact hv⟩
  ·refine (ok b u q).stay (fun c v hc r=>k c v ?_ r) (fun c r=>by rw[upd_ne (nown c b r)];exact r) fun c xs r=>by rw[upd_ne (ntup c xs r)];exact r
   rcases hc with rfl | hc
   ·exact hbe
   ·rintro rfl
    rcases he with z | z
    ·exact nown c b hc z
    ·rw[hc] at z;cases z;exact hb rfl
end
structure Un(fs ex:List Addr)(H H':Hp)(h h':Heap):Prop where
 keep:∀b o,h.get? b=some o->H b=none->b∉fs->b∉ex->h'.get? b=some o
 slot:∀b o,h.get? b=some o->H b=none->b∈fs->b∉ex->∃sl,h'.get? b=some { o with slots:=sl }
 free:∀b o,h.get? b=some o->H b=none->b∉ex->H' b=none
 there:∀b o,h.get? b=some o->b∉ex->∃o',h'.get? b=some o'
 tups:∀b xs,H b=some (.tup xs)->H' b=some (.tup xs)
 frzs:∀b o u,H b=some (.frz o u)->H' b=some (.frz o u)
 tbls:∀b ps,H b=some (.tbl ps)->∃more,H' b=some (.tbl (ps++more))
section
variable{fs fs' ex ex':List Addr}{H H1 H2:Hp}{h h1 h2 h':Heap}{a x e:Addr}{o:HO}
theorem Un.any(u:Un fs ex H H1 h h1){b:Addr}{ob:Obj}(q:h.get? b=some ob)(n:H b=none)(hx:b∉ex):∃sl,h1.get? b=some { ob with slots:=sl }:=by
 by_cases hb:b∈fs
 ·exact u.slot b ob q n hb hx
 ·exact⟨ob.slots,u.keep b ob q n hb hx⟩
theorem Un.kept(k:∀b u,h.get? b=some u->h'.get? b=some u):Un fs ex H H h h':=
 ⟨fun b ob q _ _ _=>k b ob q,fun b ob q _ _ _=>⟨ob.slots,k b ob q⟩,fun _ _ _ n _=>n,fun b ob q _=>⟨ob,k b ob q⟩,fun _ _ q=>q,fun _ _ _ q=>q,fun _ ps q=>⟨#[],by rw[q];simp⟩⟩
theorem Un.refl:Un fs ex H H h h:=Un.kept fun _ _ q=>q
theorem Un.laid(k:∀b u,h.get? b=some u->h'.get? b=some u)(hp:h.objs.size≤a)(hn:H a=none):Un fs ex H (upd H a o) h h' where
 keep:=fun b u q _ _ _=>k b u q
 slot:=fun b u q _ _ _=>⟨u.slots,k b u q⟩
 free:=fun b u q n _=>by rw[upd_ne (Nat.ne_of_lt (Nat.lt_of_lt_of_le (Heap.lt_size q) hp))];exact n
 there:=fun b u q _=>⟨u,k b u q⟩
 tups:=fun b xs q=>by rw[upd_ne (ne_of_none q hn)];exact q
 frzs:=fun b u xs q=>by rw[upd_ne (ne_of_none q hn)];exact q
 tbls:=fun b ps q=>⟨#[],by rw[upd_ne (ne_of_none q hn),q];simp⟩
theorem Un.write(mu:Mut (H x))(he:e=x∨H e=some (.own x))(k:∀b u,b≠e->h.get? b=some u->h'.get? b=some u)(heo:∃u,h'.get? e=some u):Un fs ex H (upd H x o) h h':=by
 have hx:∀b,H b=none->b≠x:=fun b n z=>by subst z;rw[n] at mu;exact mu
 have hb:∀b,H b=none->b≠e:=fun b n z=>by
  subst z
  rcases he with r | r
  ·exact hx b n r
  ·rw[n] at r;cases r
 have hm:∀b u,H b=some u->¬ Mut (some u)->b≠x:=fun b u q nm z=>by subst z;rw[q] at mu;exact nm mu
 refine⟨fun b u q n _ _=>k b u (hb b n) q,fun b u q n _ _=>⟨u.slots,k b u (hb b n) q⟩,fun b u q n _=>by rw[upd_ne (hx b n)];exact n,fun b u q _=>?_,
  fun b xs q=>by rw[upd_ne (hm b _ q fun z=>z)];exact q,fun b u xs q=>by rw[upd_ne (hm b _ q fun z=>z)];exact q,fun b ps q=>⟨#[],by rw[upd_ne (hm b _ q fun z=>z),q];simp⟩⟩
 by_cases hbe:b=e
 ·subst hbe;exact heo
 ·exact⟨u,k b u hbe q⟩
end
def trk(h:Heap)(H:Hp):List Addr:=(List.range h.objs.size).filter fun a=>(H a).isSome
def hidT(h:Heap)(H:Hp):Heap:=PySem.W.hideAll h (trk h H)
theorem hidT_size(h:Heap)(H:Hp):(hidT h H).objs.size=h.objs.size:=PySem.W.hideAll_size _ _
theorem hidT_get{h:Heap}{H:Hp}{b:Addr}{o:Obj}(e:h.get? b=some o)(n:H b=none):(hidT h H).get? b=some o:=
 PySem.W.hideAll_get _ e fun hm=>by
  have q:(H b).isSome=true:=(List.mem_filter.mp hm).2
  rw[n] at q;simp at q
theorem of_hidT {h:Heap}{H:Hp}{b:Addr}{o:Obj} (e:(hidT h H).get? b=some o):h.get? b=some o∧H b=none:=by
 have e':h.get? b=some o:=PySem.W.of_hideAll (trk h H) e
 refine⟨e',?_⟩
 cases q:H b with
 |none=>rfl
 |some x=>
   have hm:b∈trk h H:=List.mem_filter.mpr ⟨List.mem_range.mpr (Heap.lt_size e'),by simp[q]⟩
   have z:(hidT h H).get? b=none:=PySem.W.hideAll_none (trk h H) hm
   rw[z] at e;cases e
def allNews(g h:Heap)(L:Addr):List (Addr×Obj):=(List.range h.objs.size).filterMap fun a=>if a=L∨(g.get? a).isSome=true then none else (h.get? a).map fun o=>(a,o)
def rest(g h:Heap)(L d:Addr):List (Addr×Obj):=(allNews g h L).filter fun p=>decide (p.1≠d)
open PySem PySem.Spec PyProof.Rows
structure Mod(K:PySem.W.Frag)(mg:Str->Option Value)(base:Heap):Prop where
 kin:K.In base
 glob:base.Ns mainGlobals mg
 blt:∃mb,base.Ns builtinsNs mb∧∀x:Str,x≠"__name__"->mb x=bootBuiltins x
 nolimit:base.NoLimit
structure Cx where
 prog:Program
 w:World
 K:PySem.W.Frag
 mg:Str->Option Value
 base:Heap
 A:Around
 N:List Str
 s₀:Shared
 H₀:Hp
 env:Env
 outer:List Env
 stack:List Env
 ex:List Addr
 fn:Str->Bool
 calm:Bool
 pn:List (Addr×Obj)
 xe:Value->Shared->Prop
def frs(l:List Env):List Addr:=l.filterMap (·.frame)
abbrev Cx.fs(X:Cx):List Addr:=frs X.outer
def Vis(sc:Scope)(x:Str):Prop:=sc.names.lookup x=some .local∨sc.names.lookup x=some .cell∨sc.names.lookup x=some .free
def Loc(sc:Scope)(x:Str):Prop:=sc.names.lookup x=some .local∨sc.names.lookup x=some .cell
def Look(env:Env)(h:Heap)(m:Str->Option Value)(x:Str)(u:Value):Prop:=
 (env.kindOf x=some .local∧m x=some u)∨((env.kindOf x=some .cell∨env.kindOf x=some .free)∧∃c,env.cells.lookup x=some c∧h.IsCell c (some u))
structure Cx.Ok(X:Cx):Prop where
 mod:Mod X.K X.mg X.base
 kind:X.env.scope.kind=.function
 glob:X.env.globals=mainGlobals
 blt:X.env.builtins=builtinsNs
 above:X.s₀.heap.objs.size≤X.env.locals
 inj:∀x y c,X.env.cells.lookup x=some c->X.env.cells.lookup y=some c->x=y
 has:∀x,(X.env.kindOf x=some .cell∨X.env.kindOf x=some .free)->∃c,X.env.cells.lookup x=some c
 cab:∀x c,X.fn x=true->X.env.cells.lookup x=some c->X.s₀.heap.objs.size≤c
 hd:X.calm=true->X.A.handled=none
 frames:X.A.frames=some X.stack
 stk:X.stack=X.outer∨(X.stack=X.env::X.outer∧X.env.frame=some X.env.locals)
 exf:∀b∈X.ex,b≠X.env.locals∧∀x c,X.env.cells.lookup x=some c->c≠b
 bs:∀b o,X.base.get? b=some o->X.s₀.heap.get? b=some o∧X.H₀ b=none
 bsz:X.base.objs.size≤X.s₀.heap.objs.size
 noex:∀b o,X.base.get? b=some o->b∉X.ex
 exfs:∀b∈X.ex,b∉X.fs
 funs:X.s₀.heap.FunFrames X.base X.outer
 frf:∀b∈X.fs,X.H₀ b=none
structure Inv(X:Cx)(pins:List (Addr×Obj))(σ:List (Option V))(H:Hp)(s:Shared):Prop where
 ok:X.Ok
 os:s.os=X.s₀.os
 bare:AllBare s.gens
 base:Un X.fs X.ex X.H₀ H X.s₀.heap s.heap
 loc:∃m,s.heap.Ns X.env.locals m∧∀(i:Nat) (x:Str) (v:V),X.N[i]?=some x->σ[i]?=some (some v)->Vis X.env.scope x->∃u,RelV v u∧Look X.env s.heap m x u
 cell:∀x c,X.env.cells.lookup x=some c->∃v,s.heap.IsCell c v
 free:H X.env.locals=none
 freeC:∀x c,X.env.cells.lookup x=some c->H c=none
 pin:∀p∈X.pn++pins,s.heap.get? p.1=some p.2∧H p.1=none∧p.1≠X.env.locals∧p.1∉X.fs∧∀v,p.2.data≠.cell v
 hok:HOk X.prog X.w H s.heap
 len:σ.length=X.N.length
section
variable{X:Cx}{pins:List (Addr×Obj)}{σ:List (Option V)}{H H':Hp}{s:Shared}{h':Heap}
theorem Cx.Ok.nofr(ok:X.Ok){b:Addr}{o:Obj}(e:X.base.get? b=some o):b∉X.fs:=fun hb=>by
 have:=(ok.funs.mem hb).1
 rw[e] at this;cases this
theorem Inv.bs(I:Inv X pins σ H s):∀b o,X.base.get? b=some o->s.heap.get? b=some o∧H b=none:=fun b o e=>
 ⟨I.base.keep b o (I.ok.bs b o e).1 (I.ok.bs b o e).2 (I.ok.nofr e) (I.ok.noex b o e),I.base.free b o (I.ok.bs b o e).1 (I.ok.bs b o e).2 (I.ok.noex b o e)⟩
theorem Inv.bk(I:Inv X pins σ H s):∀b o,X.base.get? b=some o->s.heap.get? b=some o:=fun b o e=>(I.bs b o e).1
theorem Inv.mod(I:Inv X pins σ H s):Mod X.K X.mg X.base:=I.ok.mod
theorem Inv.kIn(I:Inv X pins σ H s):X.K.In s.heap:=I.ok.mod.kin.keeps I.bk
theorem Inv.fr(I:Inv X pins σ H s):∃m,Fr X.base X.env.locals s.heap m:=
 let ⟨m,hn,_⟩:=I.loc
 ⟨m,hn,I.bk,Nat.le_trans I.ok.bsz I.ok.above⟩
theorem Inv.lt(I:Inv X pins σ H s):X.env.locals<s.heap.objs.size:=let ⟨_,hn,_⟩:=I.loc;hn.lt
theorem Inv.sz(I:Inv X pins σ H s):X.s₀.heap.objs.size≤s.heap.objs.size:=Nat.le_trans I.ok.above (Nat.le_of_lt I.lt)
theorem Inv.nofs(I:Inv X pins σ H s){a:Addr}(h:s.heap.objs.size≤a):a∉X.fs:=fun hb=>by
 obtain⟨_,o,ho,_⟩:=I.ok.funs.mem hb
 exact absurd (Nat.lt_of_lt_of_le (Heap.lt_size ho) (Nat.le_trans I.sz h)) (Nat.lt_irrefl _)
theorem Inv.cne(I:Inv X pins σ H s):∀x c,X.env.cells.lookup x=some c->c≠X.env.locals:=fun x c e z=>by
 obtain⟨v,o,ho,hd⟩:=I.cell x c e
 obtain⟨m,⟨o',es,ep,ho',hd',_⟩,_⟩:=I.loc
 rw[z,ho'] at ho;cases ho;rw[hd'] at hd;cases hd
theorem Inv.funs (I:Inv X pins σ H s):s.heap.FunFrames X.base X.outer:=by
 have all:∀ (l:List Env),(∀ b∈frs l,b∈X.fs)->X.s₀.heap.FunFrames X.base l->s.heap.FunFrames X.base l:=by
  intro l
  induction l with
  |nil=>intro _ _;trivial
  |cons env r ih=>
    intro hs hl
    obtain⟨hk,⟨L,o,hf,hn,ho,hd⟩,hr⟩:=hl
    have hL:L∈X.fs:=hs L (by unfold frs;rw[List.filterMap_cons,hf];exact List.mem_cons_self)
    obtain⟨sl,e⟩:=I.base.slot L o ho (I.ok.frf L hL) hL fun z=>I.ok.exfs L z hL
    exact⟨hk,⟨L,_,hf,hn,e,hd⟩,ih (fun b hb=>hs b (by unfold frs;rw[List.filterMap_cons,hf];exact List.mem_cons_of_mem _ hb)) hr⟩
 exact all X.outer (fun _ hb=>hb) I.ok.funs
theorem Inv.stack(I:Inv X pins σ H s):s.heap.FunFrames X.base X.stack:=by
 rcases I.ok.stk with e | ⟨e,hf⟩
 ·rw[e];exact I.funs
 ·rw[e]
  obtain⟨m,hn,_⟩:=I.loc
  refine .cons (by rw[I.ok.kind];decide) hf hn ?_ I.funs
  exact Heap.get?_none_of_le (Nat.le_trans I.ok.bsz I.ok.above)
theorem Inv.stkSub(I:Inv X pins σ H s):∀b∈frs X.stack,b∈X.env.locals::X.fs:=fun b hb=>by
 rcases I.ok.stk with e | ⟨e,hf⟩
 ·rw[e] at hb;exact List.mem_cons_of_mem _ hb
 ·rw[e] at hb
  unfold frs at hb
  rw[List.filterMap_cons,hf] at hb
  exact hb
theorem Inv.stkFree(I:Inv X pins σ H s):∀b∈frs X.stack,H b=none:=fun b hb=>by
 rcases List.mem_cons.mp (I.stkSub b hb) with e | hb
 ·rw[e];exact I.free
 ·obtain⟨_,o,ho,_⟩:=I.ok.funs.mem hb
  exact I.base.free b o ho (I.ok.frf b hb) fun z=>I.ok.exfs b z hb
theorem Inv.step {g':Array GenState}{t':Nat}{d':Drawn}{ch:List Addr} (I:Inv X pins σ H s)
  (hch:∀b∈ch,(b∈X.ex∨X.s₀.heap.objs.size≤b)∧b≠X.env.locals∧(∀x c,X.env.cells.lookup x=some c->c≠b)∧∀p∈X.pn++pins,p.1≠b)
  (keep:∀b o,b≠X.env.locals->b∉X.fs->b∉ch->s.heap.get? b=some o->H b=none->h'.get? b=some o)
  (slot:∀b o,b≠X.env.locals->b∈X.fs->b∉ch->s.heap.get? b=some o->H b=none->∃sl,h'.get? b=some { o with slots:=sl }) (free:∀b o,b∉ch->s.heap.get? b=some o->H b=none->H' b=none)
  (there:∀b o,b∉ch->s.heap.get? b=some o->∃o',h'.get? b=some o')
  (tups:∀b xs,H b=some (.tup xs)->H' b=some (.tup xs)) (frzs:∀b o u,H b=some (.frz o u)->H' b=some (.frz o u)) (tbls:∀b ps,H b=some (.tbl ps)->∃more,H' b=some (.tbl (ps++more)))
  (ns:∀m,s.heap.Ns X.env.locals m->h'.Ns X.env.locals m) (hok:HOk X.prog X.w H' h') (hg:AllBare g') :
  Inv X pins σ H' { s with heap:=h',gens:=g',drawn:=d',toks:=t' }:=by
 have neL:∀b o,X.s₀.heap.get? b=some o->b≠X.env.locals:=fun b o e=>Nat.ne_of_lt (Nat.lt_of_lt_of_le (Heap.lt_size e) I.ok.above)
 have neC:∀b o,X.s₀.heap.get? b=some o->b∉X.ex->b∉ch:=fun b o e hx hb=>by
  rcases (hch b hb).1 with z | z
  ·exact hx z
  ·exact absurd (Nat.lt_of_lt_of_le (Heap.lt_size e) z) (Nat.lt_irrefl _)
 have cellK:∀x c,X.env.cells.lookup x=some c->∀v,s.heap.IsCell c v->h'.IsCell c v:=fun x c e v ⟨o,ho,hd⟩=>by
  have nch:c∉ch:=fun z=>(hch c z).2.2.1 x c e rfl
  by_cases hc:c∈X.fs
  ·obtain⟨sl,q⟩:=slot c o (I.cne x c e) hc nch ho (I.freeC x c e)
   exact⟨_,q,hd⟩
  ·exact⟨o,keep c o (I.cne x c e) hc nch ho (I.freeC x c e),hd⟩
 refine⟨I.ok,I.os,hg,⟨fun b o e n hb hx=>?_,fun b o e n hb hx=>?_,fun b o e n hx=>?_,fun b o e hx=>?_,fun b xs e=>tups b xs (I.base.tups b xs e),fun b o xs e=>frzs b o xs (I.base.frzs b o xs e),fun b ps e=>?_⟩,?_,fun x c e=>?_,?_,fun x c e=>?_,fun p hp=>?_,hok,I.len⟩
 ·exact keep b o (neL b o e) hb (neC b o e hx) (I.base.keep b o e n hb hx) (I.base.free b o e n hx)
 ·obtain⟨sl,e1⟩:=I.base.slot b o e n hb hx
  obtain⟨sl',e2⟩:=slot b _ (neL b o e) hb (neC b o e hx) e1 (I.base.free b o e n hx)
  exact⟨sl',e2⟩
 ·obtain⟨o',e1⟩:=I.base.there b o e hx
  exact free b o' (neC b o e hx) e1 (I.base.free b o e n hx)
 ·obtain⟨o',e1⟩:=I.base.there b o e hx
  exact there b o' (neC b o e hx) e1
 ·obtain⟨m1,e1⟩:=I.base.tbls b ps e
  obtain⟨m2,e2⟩:=tbls b _ e1
  exact⟨m1++m2,by rw[e2,Array.append_assoc]⟩
 ·obtain⟨m,hn,hl⟩:=I.loc
  refine⟨m,ns m hn,fun i x v e1 e2 e3=>?_⟩
  obtain⟨u,r,l⟩:=hl i x v e1 e2 e3
  refine⟨u,r,?_⟩
  rcases l with l | ⟨k,c,e,z⟩
  ·exact .inl l
  ·exact .inr ⟨k,c,e,cellK x c e _ z⟩
 ·obtain⟨v,z⟩:=I.cell x c e
  exact⟨v,cellK x c e v z⟩
 ·obtain⟨m,⟨o,_,_,ho,_⟩,_⟩:=I.loc
  exact free _ o (fun z=>(hch _ z).2.1 rfl) ho I.free
 ·obtain⟨v,o,ho,hd⟩:=I.cell x c e
  exact free c o (fun z=>(hch c z).2.2.1 x c e rfl) ho (I.freeC x c e)
 ·obtain⟨e,n,ne,nf,d⟩:=I.pin p hp
  have nch:p.1∉ch:=fun z=>(hch p.1 z).2.2.2 p hp rfl
  exact⟨keep p.1 p.2 ne nf nch e n,free p.1 p.2 nch e n,ne,nf,d⟩
theorem Inv.un{t':Nat}(I:Inv X pins σ H s)(u:Un X.fs [] H H' s.heap h')(hok:HOk X.prog X.w H' h'):Inv X pins σ H' { s with heap:=h',toks:=t' }:=by
 obtain⟨m,⟨o,es,ep,ho,r⟩,_⟩:=id I.loc
 obtain⟨sl,hL⟩:=u.any ho I.free (by simp)
 exact I.step (g':=s.gens) (d':=s.drawn) (ch:=[]) (fun _ z=>nomatch z) (fun b o _ hb _ e n=>u.keep b o e n hb (by simp)) (fun b o _ hb _ e n=>u.slot b o e n hb (by simp)) (fun b o _ e n=>u.free b o e n (by simp)) (fun b o _ e=>u.there b o e (by simp)) u.tups u.frzs u.tbls (fun m' hm=>by
  obtain⟨o',es',ep',ho',r'⟩:=hm
  rw[ho] at ho';cases ho'
  exact⟨_,es',ep',hL,r'⟩) hok I.bare
theorem Inv.call{g':Array GenState}{t':Nat}{d':Drawn}{ch:List Addr}(I:Inv X pins σ H s)(u:Un (frs X.stack) ch H H' s.heap h')(hok:HOk X.prog X.w H' h')(hg:AllBare g')
  (hch:∀b∈ch,(b∈X.ex∨X.s₀.heap.objs.size≤b)∧b≠X.env.locals∧(∀x c,X.env.cells.lookup x=some c->c≠b)∧∀p∈X.pn++pins,p.1≠b) :
  Inv X pins σ H' { s with heap:=h',gens:=g',drawn:=d',toks:=t' }:=by
 obtain⟨m,⟨o,es,ep,ho,r⟩,_⟩:=id I.loc
 obtain⟨sl,hL⟩:=u.any ho I.free fun z=>(hch _ z).2.1 rfl
 exact I.step (ch:=ch) hch (fun b o hL hb hc e n=>u.keep b o e n (fun z=>(List.mem_cons.mp (I.stkSub b z)).elim hL hb) hc) (fun b o _ _ hc e n=>u.any e n hc) (fun b o hc e n=>u.free b o e n hc) (fun b o hc e=>u.there b o e hc) u.tups u.frzs u.tbls (fun m' hm=>by
  obtain⟨o',es',ep',ho',r'⟩:=hm
  rw[ho] at ho';cases ho'
  exact⟨_,es',ep',hL,r'⟩) hok hg
theorem Inv.turned{t':Nat}{it:Addr}(I:Inv X pins σ H s)(k:∀b o,b≠it->s.heap.get? b=some o->h'.get? b=some o)(hn:H it=none)(hL:it≠X.env.locals)
  (h1:it∈X.ex∨X.s₀.heap.objs.size≤it) (h2:∀x c,X.env.cells.lookup x=some c->c≠it) (h3:∀p∈X.pn++pins,p.1≠it):Inv X pins σ H { s with heap:=h',toks:=t' }:=by
 have nit:∀b u,H b=some u->b≠it:=fun b u e z=>by rw[z,hn] at e;cases e
 refine I.step (g':=s.gens) (d':=s.drawn) (ch:=[it]) (fun b hb=>?_) (fun b o _ _ hc e _=>k b o (fun z=>hc (by simp[z])) e) (fun b o _ _ hc e _=>⟨o.slots,k b o (fun z=>hc (by simp[z])) e⟩) (fun _ _ _ _ n=>n)
  (fun b o hc e=>⟨o,k b o (fun z=>hc (by simp[z])) e⟩) (fun _ _ e=>e) (fun _ _ _ e=>e) (fun b ps e=>⟨#[],by rw[e];simp⟩) (fun m hm=>?_) (fun b u e=>?_) I.bare
 ·have e:b=it:=by simpa using hb
  subst e
  exact⟨h1,hL,h2,h3⟩
 ·obtain⟨o,es,ep,ho,r⟩:=hm
  exact⟨o,es,ep,k _ o (Ne.symm hL) ho,r⟩
 ·refine (I.hok b u e).stay (fun c v hc q=>k c v ?_ q) (fun _ q=>q) fun _ _ q=>q
  rcases hc with z | z
  ·rw[z];exact nit b u e
  ·exact nit c _ z
theorem Inv.tok(I:Inv X pins σ H s)(t:Nat):Inv X pins σ H { s with toks:=t }:=I.un (h':=s.heap) (t':=t) Un.refl I.hok
theorem Inv.kept{t':Nat}(I:Inv X pins σ H s)(k:∀b u,s.heap.get? b=some u->h'.get? b=some u):Inv X pins σ H { s with heap:=h',toks:=t' }:=I.un (Un.kept k) (I.hok.kept k)
theorem Inv.laid{a:Addr}{o:HO}{t':Nat}(I:Inv X pins σ H s)(k:∀b u,s.heap.get? b=some u->h'.get? b=some u)(hp:s.heap.objs.size≤a)(new:ObjOk X.prog X.w (upd H a o) h' a o) :
  Inv X pins σ (upd H a o) { s with heap:=h',toks:=t' }:=I.un (Un.laid k hp (I.hok.fresh hp)) (I.hok.laid k hp new)
theorem Inv.write{x e:Addr}{o:HO}{t':Nat}(I:Inv X pins σ H s)(mu:Mut (H x))(he:e=x∨H e=some (.own x))(k:∀b u,b≠e->s.heap.get? b=some u->h'.get? b=some u)(heo:∃u,h'.get? e=some u)
  (new:ObjOk X.prog X.w (upd H x o) h' x o):Inv X pins σ (upd H x o) { s with heap:=h',toks:=t' }:=I.un (Un.write mu he k heo) (I.hok.write mu he k heo new)
theorem Inv.weak{σ':List (Option V)}(I:Inv X pins σ H s)(hl:σ'.length=σ.length)(w:∀(i:Nat) v,σ'[i]?=some (some v)->σ[i]?=some (some v)):Inv X pins σ' H s:=
 ⟨I.ok,I.os,I.bare,I.base,let ⟨m,hn,hl'⟩:=I.loc;⟨m,hn,fun i x v e1 e2 e3=>hl' i x v e1 (w i v e2) e3⟩,I.cell,I.free,I.freeC,I.pin,I.hok,hl.trans I.len⟩
theorem Inv.pins_of{pins':List (Addr×Obj)}(I:Inv X pins σ H s)(h:∀p∈pins',s.heap.get? p.1=some p.2∧H p.1=none∧p.1≠X.env.locals∧p.1∉X.fs∧∀v,p.2.data≠.cell v):Inv X pins' σ H s:=
 ⟨I.ok,I.os,I.bare,I.base,I.loc,I.cell,I.free,I.freeC,fun p hp=>(List.mem_append.mp hp).elim (fun z=>I.pin p (List.mem_append_left _ z)) (h p),I.hok,I.len⟩
theorem nodup_ix{N:List Str}(hN:N.Nodup){i j:Nat}{x:Str}(a:N[i]?=some x)(b:N[j]?=some x):i=j:=by
 obtain⟨h1,e1⟩:=List.getElem?_eq_some_iff.mp a
 obtain⟨h2,e2⟩:=List.getElem?_eq_some_iff.mp b
 exact (List.getElem_inj hN).mp (e1.trans e2.symm)
theorem store_ok2 {M:Model}{A:Around}{E:Value->Shared->Prop}{i:Nat}{x:Str}{v:V}{u:Value}{Q:Unit->Shared->Prop} (I:Inv X pins σ H s) (hN:X.N.Nodup) (hi:X.N[i]?=some x) (hx:Loc X.env.scope x) (r:RelV v u)
  (h:∀s',Inv X pins (σ.set i (some v)) H s'->(∃a,Heap.SameBut a s.heap s'.heap∧(a=X.env.locals∨X.env.cells.lookup x=some a))->Q () s') (hf:X.fn x=true∨X.env.scope.names.lookup x=some .local:=by first | exact .inl rfl | exact .inr rfl | assumption):wpAny M A (storeName X.env x u) Q E s:=by
 obtain⟨m,hn,hl⟩:=id I.loc
 have hcls:(X.env.scope.kind==.class || (X.env.scope.kind==.module&&X.env.locals != X.env.globals))=false:=by rw[I.ok.kind];rfl
 have hiσ:i<σ.length:=by rw[I.len];exact (List.getElem?_eq_some_iff.mp hi).1
 have cne:=I.cne
 have tracked:∀{a:Addr}{h':Heap},(∃o,s.heap.get? a=some o∧H a=none)->Heap.SameBut a s.heap h'->HOk X.prog X.w H h':=fun {a h'} ha hs b ob e=>by
  obtain⟨_,_,hfree⟩:=ha
  refine (I.hok b ob e).stay (fun c w' hc q=>(hs.2 c ?_).trans q) (fun _ q=>q) fun _ _ q=>q
  rintro rfl
  rcases hc with rfl | hc
  ·rw[hfree] at e;cases e
  ·rw[hfree] at hc;cases hc
 rcases hx with hk | hk
 ·refine wpAny_storeName_local hk hn (fun h' hn' hs=>?_) hcls
  obtain⟨oL,_,_,hoL,_⟩:=id hn
  refine h _ ⟨I.ok,I.os,I.bare,⟨fun b o e n hb hx=>?_,fun b o e n hb hx=>?_,I.base.free,fun b o e hx=>?_,I.base.tups,I.base.frzs,I.base.tbls⟩,⟨_,hn',fun j y v' e1 e2 e3=>?_⟩,fun y c e=>?_,I.free,I.freeC,fun p hp=>?_,tracked ⟨oL,hoL,I.free⟩ hs,by simpa using I.len⟩ ⟨_,hs,.inl rfl⟩
  ·exact (hs.2 b (Nat.ne_of_lt (Nat.lt_of_lt_of_le (Heap.lt_size e) I.ok.above))).trans (I.base.keep b o e n hb hx)
  ·obtain⟨sl,e1⟩:=I.base.slot b o e n hb hx
   exact⟨sl,(hs.2 b (Nat.ne_of_lt (Nat.lt_of_lt_of_le (Heap.lt_size e) I.ok.above))).trans e1⟩
  ·obtain⟨o',e1⟩:=I.base.there b o e hx
   exact⟨o',(hs.2 b (Nat.ne_of_lt (Nat.lt_of_lt_of_le (Heap.lt_size e) I.ok.above))).trans e1⟩
  ·by_cases hj:j=i
   ·subst hj
    rw[hi] at e1;cases e1
    rw[List.getElem?_set_self hiσ] at e2
    cases e2
    exact⟨u,r,.inl ⟨hk,by simp⟩⟩
   ·rw[List.getElem?_set_ne (Ne.symm hj)] at e2
    obtain⟨u',r',q⟩:=hl j y v' e1 e2 e3
    refine⟨u',r',?_⟩
    rcases q with ⟨k,e⟩ | ⟨k,c,e,z⟩
    ·refine .inl ⟨k,?_⟩
     have:y≠x:=fun e=>hj (nodup_ix hN e1 (e ▸ hi))
     simp[this,e]
    ·exact .inr ⟨k,c,e,z.sameBut hs (cne y c e)⟩
  ·obtain⟨w',z⟩:=I.cell y c e
   exact⟨w',z.sameBut hs (cne y c e)⟩
  ·obtain⟨e,n,ne,nf,d⟩:=I.pin p hp
   exact⟨(hs.2 p.1 ne).trans e,n,ne,nf,d⟩
 ·have hfn:X.fn x=true:=by
   rcases hf with z | z
   ·exact z
   ·rw[z] at hk;cases hk
  obtain⟨c,hc⟩:=I.ok.has x (.inl hk)
  obtain⟨w',z⟩:=I.cell x c hc
  refine wpAny_storeName_cell I.ok.kind hk hc z (fun h' hc' hs=>?_)
  obtain⟨oc,hoc,hocd⟩:=id z
  refine h { s with heap:=h' } ⟨I.ok,I.os,I.bare,⟨fun b o e n hb hx=>?_,fun b o e n hb hx=>?_,I.base.free,fun b o e hx=>?_,I.base.tups,I.base.frzs,I.base.tbls⟩,⟨m,hn.sameBut hs (Ne.symm (cne x c hc)),fun j y v' e1 e2 e3=>?_⟩,fun y c' e=>?_,I.free,I.freeC,fun p hp=>?_,tracked ⟨oc,hoc,I.freeC x c hc⟩ hs,by simpa using I.len⟩ ⟨c,hs,.inr hc⟩
  ·exact (hs.2 b (Nat.ne_of_lt (Nat.lt_of_lt_of_le (Heap.lt_size e) (I.ok.cab x c hfn hc)))).trans (I.base.keep b o e n hb hx)
  ·obtain⟨sl,e1⟩:=I.base.slot b o e n hb hx
   exact⟨sl,(hs.2 b (Nat.ne_of_lt (Nat.lt_of_lt_of_le (Heap.lt_size e) (I.ok.cab x c hfn hc)))).trans e1⟩
  ·obtain⟨o',e1⟩:=I.base.there b o e hx
   exact⟨o',(hs.2 b (Nat.ne_of_lt (Nat.lt_of_lt_of_le (Heap.lt_size e) (I.ok.cab x c hfn hc)))).trans e1⟩
  ·by_cases hj:j=i
   ·subst hj
    rw[hi] at e1;cases e1
    rw[List.getElem?_set_self hiσ] at e2
    cases e2
    exact⟨u,r,.inr ⟨.inl hk,c,hc,hc'⟩⟩
   ·rw[List.getElem?_set_ne (Ne.symm hj)] at e2
    obtain⟨u',r',q⟩:=hl j y v' e1 e2 e3
    refine⟨u',r',?_⟩
    rcases q with q | ⟨k,c',e,z'⟩
    ·exact .inl q
    ·refine .inr ⟨k,c',e,z'.sameBut hs ?_⟩
     rintro rfl
     exact hj (nodup_ix hN e1 (I.ok.inj _ _ _ e hc ▸ hi))
  ·by_cases hcc:c'=c
   ·subst hcc;exact⟨_,hc'⟩
   ·obtain⟨w2,z2⟩:=I.cell y c' e
    exact⟨w2,z2.sameBut hs hcc⟩
  ·obtain⟨e,n,ne,nf,d⟩:=I.pin p hp
   refine⟨(hs.2 p.1 ?_).trans e,n,ne,nf,d⟩
   intro q
   rw[q,hoc] at e
   have q':oc=p.2:=Option.some.inj e
   exact d w' (by rw[←q'];exact hocd)
theorem store_ok{M:Model}{A:Around}{E:Value->Shared->Prop}{i:Nat}{x:Str}{v:V}{u:Value}{Q:Unit->Shared->Prop}(I:Inv X pins σ H s)(hN:X.N.Nodup)(hi:X.N[i]?=some x)(hx:Loc X.env.scope x)(r:RelV v u)
  (h:∀s',Inv X pins (σ.set i (some v)) H s'->Q () s') (hf:X.fn x=true∨X.env.scope.names.lookup x=some .local:=by first | exact .inl rfl | exact .inr rfl | assumption):wpAny M A (storeName X.env x u) Q E s:=
 store_ok2 I hN hi hx r (fun s' I' _=>h s' I') hf
theorem Inv.call'{s':Shared}{ch:List Addr}(I:Inv X pins σ H s)(ho:s'.os=s.os)(u:Un (frs X.stack) ch H H' s.heap s'.heap)(hok:HOk X.prog X.w H' s'.heap)(hg:AllBare s'.gens)
  (hch:∀b∈ch,(b∈X.ex∨X.s₀.heap.objs.size≤b)∧b≠X.env.locals∧(∀x c,X.env.cells.lookup x=some c->c≠b)∧∀p∈X.pn++pins,p.1≠b):Inv X pins σ H' s':=by
 obtain⟨h',g',d',t',o'⟩:=s'
 have e:o'=s.os:=ho
 subst e
 exact I.call (g':=g') (t':=t') (d':=d') u hok hg hch
end
abbrev XK:=Value->Option Addr->Hp->Prop
abbrev St:=List (Option V)
abbrev VK:=V->Hp->Prop
abbrev TE:=St->Hp->VK->Prop
abbrev TT:=St->Hp->(Bool->Hp->Prop)->Prop
abbrev TA:=St->Hp->(List V->Hp->Prop)->Prop
structure Ends where
 nx:St->Hp->Prop
 rt:VK
 bk:St->Hp->Prop:=fun _ _=>False
 ct:St->Hp->Prop:=fun _ _=>False
abbrev TS:=Ends->St->Hp->Prop
def EP(X:Cx)(pins:List (Addr×Obj))(σ:St)(Q:VK)(u:Value)(s':Shared):Prop:=∃v H',Inv X pins σ H' s'∧RelV v u∧Q v H'
def TP(X:Cx)(pins:List (Addr×Obj))(σ:St)(Q:Bool->Hp->Prop)(b:Bool)(s':Shared):Prop:=∃H',Inv X pins σ H' s'∧Q b H'
def AP(X:Cx)(pins:List (Addr×Obj))(σ:St)(Q:List V->Hp->Prop)(us:List Value)(s':Shared):Prop:=∃vs H',Inv X pins σ H' s'∧Vals vs us∧Q vs H'
def SP(X:Cx)(pins:List (Addr×Obj))(D:Ends)(f:Flow)(s':Shared):Prop:=
 match f with
 |.next=>∃σ' H',Inv X pins σ' H' s'∧D.nx σ' H'
 |.brk=>∃σ' H',Inv X pins σ' H' s'∧D.bk σ' H'
 |.cont=>∃σ' H',Inv X pins σ' H' s'∧D.ct σ' H'
 |.ret u=>∃v σ' H',Inv X pins σ' H' s'∧RelV v u∧D.rt v H'
def PE(X:Cx)(e:Expr)(t:TE):Prop:=
 ∀(pins:List (Addr×Obj)) (s:Shared) (σ:St) (H:Hp) (Q:VK),Inv X pins σ H s->t σ H Q->wpAny (model X.prog X.w) X.A (eval e X.env) (EP X pins σ Q) X.xe s
def PT(X:Cx)(e:Expr)(t:TT):Prop:=
 ∀(pins:List (Addr×Obj)) (s:Shared) (σ:St) (H:Hp) (Q:Bool->Hp->Prop),Inv X pins σ H s->t σ H Q->wpAny (model X.prog X.w) X.A (isTrue e X.env (eval e X.env)) (TP X pins σ Q) X.xe s
def PW(X:Cx)(e:Expr)(t:TT):Prop:=
 ∀(whole:Sem Value) (pins:List (Addr×Obj)) (s:Shared) (σ:St) (H:Hp) (Q:Bool->Hp->Prop),Inv X pins σ H s->t σ H Q->wpAny (model X.prog X.w) X.A (isTrue e X.env whole) (TP X pins σ Q) X.xe s
theorem PW.pt{X:Cx}{e:Expr}{t:TT}(h:PW X e t):PT X e t:=h _
def PA(X:Cx)(es:List Expr)(t:TA):Prop:=
 ∀(pos:Pos) (pins:List (Addr×Obj)) (s:Shared) (σ:St) (H:Hp) (Q:List V->Hp->Prop),Inv X pins σ H s->t σ H Q->wpAny (model X.prog X.w) X.A (spliced (backTo pos (starEach es X.env))) (AP X pins σ Q) X.xe s
def PS(X:Cx)(st:Stmt)(t:TS):Prop:=
 ∀(pins:List (Addr×Obj)) (s:Shared) (σ:St) (H:Hp) (D:Ends),Inv X pins σ H s->t D σ H->wpAny (model X.prog X.w) X.A (exec st X.env) (SP X pins D) X.xe s
def PSs(X:Cx)(st:List Stmt)(t:TS):Prop:=
 ∀(pins:List (Addr×Obj)) (s:Shared) (σ:St) (H:Hp) (D:Ends),Inv X pins σ H s->t D σ H->wpAny (model X.prog X.w) X.A (execs st X.env) (SP X pins D) X.xe s
theorem thn{α:Type}{t:Sem α}{Q Q':α->Shared->Prop}{M:Model}{A:Around}{E:Value->Shared->Prop}{s:Shared}(h:wpAny M A t Q E s)(hQ:∀a s,Q a s->Q' a s):wpAny M A t Q' E s:=wpAny_mono h hQ fun _ _ x=>x
open PySem PySem.Spec PyProof.Rows
section
variable{X:Cx}
theorem bin{a b:Expr}{ta tb:TE}(ha:PE X a ta)(hb:PE X b tb){pins:List (Addr×Obj)}{s:Shared}{σ:St}{H:Hp}{R:V->V->Hp->Prop}(I:Inv X pins σ H s)(h:ta σ H fun x H1=>tb σ H1 fun y H2=>R x y H2)
  {α:Type}{Q:α->Shared->Prop}{f:Value->Value->Sem α}
  (hf:∀v u s2 x y H2,Inv X pins σ H2 s2->RelV x v->RelV y u->R x y H2->wpAny (model X.prog X.w) X.A (f v u) Q X.xe s2) :
  wpAny (model X.prog X.w) X.A (eval a X.env) (fun v s₁=>wpAny (model X.prog X.w) X.A (eval b X.env) (fun u s₂=>wpAny (model X.prog X.w) X.A (f v u) Q X.xe s₂) X.xe s₁) X.xe s:=by
 refine thn (ha pins s σ H _ I h) fun v s1 ⟨x,H1,I1,r1,q1⟩=>?_
 refine thn (hb pins s1 σ H1 _ I1 q1) fun u s2 ⟨y,H2,I2,r2,q2⟩=>?_
 exact hf v u s2 x y H2 I2 r1 r2 q2
def tVar(i:Nat):TE:=fun σ H Q=>∃v,σ[i]?=some (some v)∧Q v H
def tC(v:V):TE:=fun _ H Q=>Q v H
theorem pe_var{i:Nat}{x:Str}{pos:Pos}(hN:X.N[i]?=some x)(hv:Vis X.env.scope x)(hd:(x==("__debug__":Str))=false:=by decide)(hcd:(x==("__classdict__":Str))=false:=by decide):PE X (.Name x pos) (tVar i):=by
 intro pins s σ H Q I h
 obtain⟨v,e,h⟩:=h
 obtain⟨m,hn,hl⟩:=I.loc
 obtain⟨u,r,l⟩:=hl i x v hN e hv
 have fin:EP X pins σ Q u s:=⟨v,H,I,r,h⟩
 rcases l with ⟨hk,hm⟩ | ⟨hk,c,hc,hcell⟩
 ·exact wpAny_Name (wpAny_loadName_local I.ok.kind hk hn hm fin) hd
 ·rcases hk with hk | hk
  ·exact wpAny_Name (wpAny_loadName_cell I.ok.kind hk hc hcell fin) hd
  ·exact wpAny_Name (wpAny_loadName_free I.ok.kind hk hc hcell fin hcd) hd
theorem pe_int{i j pos}:PE X (.Constant (.int i) j pos) (tC (.int i)):=fun _ _ _ H _ I h=>wpAny_Constant_int ⟨.int i,H,I.tok _,⟨_,rfl⟩,h⟩
theorem pe_bl{b j pos}:PE X (.Constant (.bool b) j pos) (tC (.bl b)):=fun _ _ _ H _ I h=>Constant_bool ⟨.bl b,H,I,rfl,h⟩
theorem pe_non{j pos}:PE X (.Constant .none j pos) (tC .non):=fun _ _ _ H _ I h=>Constant_none ⟨.non,H,I,rfl,h⟩
theorem pe_str{x j pos}:PE X (.Constant (.str x) j pos) (tC (.str x)):=fun _ _ _ H _ I h=>Calls.Constant_str ⟨.str x,H,I.tok _,⟨_,rfl⟩,h⟩
def Gl(X:Cx)(x:Str):Prop:=X.env.kindOf x=some .globalImplicit
theorem ld_glob{E:Value->Shared->Prop}{pins:List (Addr×Obj)}{s:Shared}{σ:St}{H:Hp}{x:Str}{u:Value}{pos:Pos}{Q:Value->Shared->Prop}(I:Inv X pins σ H s)(hg:Gl X x)(hm:X.mg x=some u)(h:Q u s)
  (hd:(x==("__debug__":Str))=false:=by decide):wpAny (model X.prog X.w) X.A (eval (.Name x pos) X.env) Q E s:=
 Calls.Name_function_global I.ok.kind hg (Calls.loadGlobal_global (by rw[I.ok.glob];exact I.mod.glob.keeps I.bk) hm h) hd
theorem ld_blt{E:Value->Shared->Prop}{pins:List (Addr×Obj)}{s:Shared}{σ:St}{H:Hp}{x:Str}{u:Value}{pos:Pos}{Q:Value->Shared->Prop}(I:Inv X pins σ H s)(hg:Gl X x)(hm:X.mg x=none)(hv:bootBuiltins x=some u)(h:Q u s)
  (hn:x≠"__name__":=by decide) (hd:(x==("__debug__":Str))=false:=by decide):wpAny (model X.prog X.w) X.A (eval (.Name x pos) X.env) Q E s:=by
 obtain⟨mb,h1,h2⟩:=I.mod.blt
 exact Calls.Name_function_global I.ok.kind hg (Calls.loadGlobal_builtin (by rw[I.ok.glob];exact I.mod.glob.keeps I.bk) hm (by rw[I.ok.blt];exact h1.keeps I.bk) ((h2 x hn).trans hv) h) hd
theorem pe_glob{x:Str}{v:V}{u:Value}{pos:Pos}(hg:Gl X x)(hm:X.mg x=some u)(r:RelV v u)(hd:(x==("__debug__":Str))=false:=by decide):PE X (.Name x pos) (tC v):=
 fun _ _ _ H _ I h=>ld_glob I hg hm ⟨v,H,I,r,h⟩ hd
theorem pe_bltn{x:Str}{v:V}{u:Value}{pos:Pos}(hg:Gl X x)(hm:X.mg x=none)(hv:bootBuiltins x=some u)(r:RelV v u)(hn:x≠"__name__":=by decide)(hd:(x==("__debug__":Str))=false:=by decide):PE X (.Name x pos) (tC v):=
 fun _ _ _ H _ I h=>ld_blt I hg hm hv ⟨v,H,I,r,h⟩ hn hd
variable{a b:Expr}{ta tb:TE}{pos:Pos}
variable{tA tB':TT}{rest:List Expr}
def tAnd(t u:TT):TT:=fun σ H Q=>t σ H fun c H1=>if c=true then u σ H1 Q else Q false H1
def tOr(t u:TT):TT:=fun σ H Q=>t σ H fun c H1=>if c=true then Q true H1 else u σ H1 Q
def tNot(t:TT):TT:=fun σ H Q=>t σ H fun c H1=>Q (!c) H1
theorem pw_and1(ha:PT X a tA):PW X (.BoolOp .And [a] pos) tA:=by
 intro wh pins s σ H Q I h
 refine isTrue_and (thn (ha pins s σ H Q I h) fun c s1 e=>?_)
 cases c with
 |true=>exact isTrue_and_nil e
 |false=>exact e
theorem pw_or1(ha:PT X a tA):PW X (.BoolOp .Or [a] pos) tA:=by
 intro wh pins s σ H Q I h
 refine isTrue_or (thn (ha pins s σ H Q I h) fun c s1 e=>?_)
 cases c with
 |false=>exact isTrue_or_nil e
 |true=>exact e
theorem pw_and(ha:PT X a tA)(hb:PW X (.BoolOp .And (b::rest) pos) tB'):PW X (.BoolOp .And (a::b::rest) pos) (tAnd tA tB'):=by
 intro wh pins s σ H Q I h
 refine isTrue_and (thn (ha pins s σ H _ I h) fun c s1 ⟨H1,I1,q1⟩=>?_)
 cases c with
 |true=>exact hb wh pins s1 σ H1 Q I1 q1
 |false=>exact⟨H1,I1,q1⟩
theorem pw_or(ha:PT X a tA)(hb:PW X (.BoolOp .Or (b::rest) pos) tB'):PW X (.BoolOp .Or (a::b::rest) pos) (tOr tA tB'):=by
 intro wh pins s σ H Q I h
 refine isTrue_or (thn (ha pins s σ H _ I h) fun c s1 ⟨H1,I1,q1⟩=>?_)
 cases c with
 |true=>exact⟨H1,I1,q1⟩
 |false=>exact hb wh pins s1 σ H1 Q I1 q1
theorem pt_not(ha:PT X a tA):PT X (.UnaryOp .Not a pos) (tNot tA):=by
 intro pins s σ H Q I h
 exact isTrue_not (ha pins s σ H (fun c H1=>Q (!c) H1) I h)
def tAndV(ta tb:TE):TE:=fun σ H Q=>ta σ H fun x H1=>∃c,x=.bl c∧if c=true then tb σ H1 Q else Q (.bl false) H1
def tNotV(ta:TE):TE:=fun σ H Q=>ta σ H fun x H1=>∃c,x=.bl c∧Q (.bl (!c)) H1
theorem pe_one{op}{t:TE}(h:PE X a t):PE X (.BoolOp op [a] pos) t:=fun pins s σ H Q I hw=>BoolOp_one (h pins s σ H Q I hw)
theorem pe_and(ha:PE X a ta)(hb:PE X (.BoolOp .And (b::rest) pos) tb):PE X (.BoolOp .And (a::b::rest) pos) (tAndV ta tb):=by
 intro pins s σ H Q I h
 refine BoolOp_and (thn (ha pins s σ H _ I h) fun v s1 ⟨x,H1,I1,r1,q1⟩=>?_)
 obtain⟨c,rfl,q1⟩:=q1
 cases r1
 refine wpAny_truthy_bool ?_
 cases c with
 |true=>exact hb pins s1 σ H1 Q I1 q1
 |false=>exact⟨.bl false,H1,I1,rfl,q1⟩
theorem pe_not(ha:PE X a ta):PE X (.UnaryOp .Not a pos) (tNotV ta):=by
 intro pins s σ H Q I h
 refine UnaryOp_ (thn (ha pins s σ H _ I h) fun v s1 ⟨x,H1,I1,r1,q1⟩=>?_)
 obtain⟨c,rfl,q1⟩:=q1
 cases r1
 exact not_of (wpAny_truthy_bool ⟨.bl (!c),H1,I1,rfl,q1⟩)
def tIf(t:TT)(ta tb:TE):TE:=fun σ H Q=>t σ H fun c H1=>if c=true then ta σ H1 Q else tb σ H1 Q
theorem pe_ifExp{c:Expr}(hc:PT X c tA)(ha:PE X a ta)(hb:PE X b tb):PE X (.IfExp c a b pos) (tIf tA ta tb):=by
 intro pins s σ H Q I h
 refine wpAny_IfExp (thn (hc pins s σ H _ I h) fun d s1 ⟨H1,I1,q1⟩=>?_)
 cases d with
 |true=>exact ha pins s1 σ H1 Q I1 q1
 |false=>exact hb pins s1 σ H1 Q I1 q1
end
open PySem PySem.Spec PyProof.Rows
def SqL(K:PySem.W.Frag)(H:Hp)(a:Addr)(xs:List V):Prop:=
 Rd H a (.lst xs) ∨
  ∃(o:Obj) (its:Array Value) (n:Nat),K.lookup a=some o∧o.cls=.type "list"∧o.dict=none∧o.data=.seq its n∧its.size≤sizeLine∧Vals xs its.toList
def SqT(K:PySem.W.Frag)(H:Hp)(a:Addr)(xs:List V):Prop:=
 Rd H a (.tup xs) ∨
  ∃(o:Obj) (its:Array Value) (n:Nat),K.lookup a=some o∧o.cls=.type "tuple"∧o.data=.seq its n∧its.size≤sizeLine∧Vals xs its.toList
def absV:Value->Option V
 |.none=>some .non
 |.bool b=>some (.bl b)
 |.int i _=>some (.int i)
 |.str x _=>some (.str x)
 |.bytes b _=>some (.byt b)
 |.float b _=>some (.flt b)
 |.ref a=>some (.ref a)
 |.type n=>some (.ty n)
 |_=>none
theorem RelV.abs{x:V}{u:Value}(r:RelV x u):absV u=some x:=by
 cases x with
 |non=>cases r;rfl
 |bl _=>cases r;rfl
 |int _=>obtain⟨t,rfl⟩:=r;rfl
 |str _=>obtain⟨t,rfl⟩:=r;rfl
 |byt _=>obtain⟨t,rfl⟩:=r;rfl
 |flt _=>obtain⟨t,rfl⟩:=r;rfl
 |ref _=>cases r;rfl
 |ty _=>cases r;rfl
theorem RelV.inj{x y:V}{u:Value}(r:RelV x u)(q:RelV y u):x=y:=Option.some.inj (r.abs.symm.trans q.abs)
theorem Vals.inj:∀{xs ys:List V}{us:List Value},Vals xs us->Vals ys us->xs=ys
 |_,_,_,.nil,.nil=>rfl
 |_,_,_,.cons r t,.cons r' t'=>by rw[r.inj r',Vals.inj t t']
section
variable{X:Cx}{pins:List (Addr×Obj)}{σ:St}{H:Hp}{s:Shared}{a:Addr}{xs ys:List V}
theorem SqL.of{K:PySem.W.Frag}(h:H a=some (.lst xs)):SqL K H a xs:=.inl (.inl h)
theorem SqT.of{K:PySem.W.Frag}(h:H a=some (.tup xs)):SqT K H a xs:=.inl (.inl h)
theorem Inv.list(I:Inv X pins σ H s)(h:SqL X.K H a xs):∃its:List Value,Vals xs its∧PlainL s.heap a its.toArray∧xs.length≤sizeLine:=by
 rcases h with h | ⟨o,its,n,hk,hc,hd,hs,hz,r⟩
 ·obtain⟨z,its,n,r,e⟩:=h.ok I.hok
  exact⟨its,r,⟨_,n,e,rfl,rfl,rfl⟩,z⟩
 ·refine⟨its.toList,r,⟨o,n,I.kIn a o hk,hc,hd,by simpa using hs⟩,?_⟩
  have e:=r.length
  simp only[Array.length_toList] at e
  omega
theorem Inv.tuple(I:Inv X pins σ H s)(h:SqT X.K H a xs):∃its:List Value,Vals xs its∧IsTup s.heap a its.toArray∧xs.length≤sizeLine:=by
 rcases h with h | ⟨o,its,n,hk,hc,hs,hz,r⟩
 ·obtain⟨z,its,r,p⟩:=h.ok I.hok
  exact⟨its,r,p,z⟩
 ·refine⟨its.toList,r,⟨o,I.kIn a o hk,hc,n,by simpa using hs⟩,?_⟩
  have e:=r.length
  simp only[Array.length_toList] at e
  omega
theorem Inv.list_inj(I:Inv X pins σ H s)(h:SqL X.K H a xs)(h':SqL X.K H a ys):xs=ys:=by
 obtain⟨its,r,⟨o,n,e,_,_,d⟩,_⟩:=I.list h
 obtain⟨its',r',⟨o',n',e',_,_,d'⟩,_⟩:=I.list h'
 rw[e] at e';cases e'
 rw[d] at d'
 injection d' with d1 _
 have:its=its':=by simpa using congrArg Array.toList d1
 subst this
 exact r.inj r'
theorem Inv.tuple_inj(I:Inv X pins σ H s)(h:SqT X.K H a xs)(h':SqT X.K H a ys):xs=ys:=by
 obtain⟨its,r,⟨o,e,_,n,d⟩,_⟩:=I.tuple h
 obtain⟨its',r',⟨o',e',_,n',d'⟩,_⟩:=I.tuple h'
 rw[e] at e';cases e'
 rw[d] at d'
 injection d' with d1 _
 have:its=its':=by simpa using congrArg Array.toList d1
 subst this
 exact r.inj r'
end
section
variable{X:Cx}{st:Stmt}{rest:List Stmt}{t u:TS}{e:Expr}{te:TE}{pos:Pos}
def tNext:TS:=fun D σ H=>D.nx σ H
def tSeq(t u:TS):TS:=fun D σ H=>t { D with nx:=u D } σ H
theorem pss_nil:PSs X [] tNext:=fun _ _ σ H _ I h=>wpAny_execs_nil ⟨σ,H,I,h⟩
theorem pss_cons (h1:PS X st t) (h2:PSs X rest u):PSs X (st::rest) (tSeq t u):=by
 intro pins s σ H D I h
 refine wpAny_execs_cons (thn (h1 pins s σ H { D with nx:=u D } I h) fun f s1 q=>?_)
 cases f with
 |next=>
   obtain⟨σ',H',I',q⟩:=q
   exact h2 pins s1 σ' H' D I' q
 |ret v=>exact q
 |brk=>exact q
 |cont=>exact q
theorem pss_one(h1:PS X st t):PSs X [st] t:=by
 intro pins s σ H D I h
 refine wpAny_execs_cons (thn (h1 pins s σ H D I h) fun f s1 q=>?_)
 cases f with
 |next=>exact wpAny_execs_nil q
 |ret v=>exact q
 |brk=>exact q
 |cont=>exact q
theorem Inv.quiet{pins:List (Addr×Obj)}{σ:St}{H:Hp}{s:Shared}(I:Inv X pins σ H s):interactive X.env=false:=by simp[interactive,I.ok.kind]
def tDrop(te:TE):TS:=fun D σ H=>te σ H fun _ H1=>D.nx σ H1
theorem ps_expr(he:PE X e te)(hs:swapsWith e none pos.line X.env=pure false:=by rfl):PS X (.Expr e pos) (tDrop te):=by
 intro pins s σ H D I h
 exact wpAny_Expr_any (thn (he pins s σ H _ I h) fun v s1 ⟨x,H1,I1,r1,q1⟩=>⟨σ,H1,I1,q1⟩) I.quiet hs
def tRet(te:TE):TS:=fun D σ H=>te σ H D.rt
theorem ps_ret(he:PE X e te):PS X (.Return (some e) pos) (tRet te):=by
 intro pins s σ H D I h
 exact wpAny_Return_some (thn (he pins s σ H _ I h) fun v s1 ⟨x,H1,I1,r1,q1⟩=>⟨x,σ,H1,I1,r1,q1⟩)
def tIfS(c:TT)(t u:TS):TS:=fun D σ H=>c σ H fun b H1=>if b=true then t D σ H1 else u D σ H1
theorem ps_if{c:Expr}{a b:List Stmt}{tc:TT}(hc:PT X c tc)(ha:PSs X a t)(hb:PSs X b u):PS X (.If c a b pos) (tIfS tc t u):=by
 intro pins s σ H D I h
 refine wpAny_If (thn (hc pins s σ H _ I h) fun d s1 ⟨H1,I1,q1⟩=>?_)
 cases d with
 |true=>exact ha pins s1 σ H1 D I1 q1
 |false=>exact hb pins s1 σ H1 D I1 q1
end
abbrev TG:=V->St->Hp->(St->Hp->Prop)->Prop
abbrev TGs:=List V->St->Hp->(St->Hp->Prop)->Prop
def PG (X:Cx) (target:Expr) (t:TG):Prop:=
 ∀(pins:List (Addr×Obj)) (s:Shared) (σ:St) (H:Hp) (v:V) (u:Value) (Q:St->Hp->Prop),Inv X pins σ H s->RelV v u->t v σ H Q->
   wpAny (model X.prog X.w) X.A (assign target X.env u) (fun _ s'=>∃σ' H',Inv X pins σ' H' s'∧Q σ' H') X.xe s
def PGs (X:Cx) (ts:List Expr) (t:TGs):Prop:=
 ∀(pins:List (Addr×Obj)) (s:Shared) (σ:St) (H:Hp) (vs:List V) (us:List Value) (Q:St->Hp->Prop),Inv X pins σ H s->Vals vs us->t vs σ H Q->
   wpAny (model X.prog X.w) X.A (assignInOrder ((assignEach ts X.env).map (·.2)) us) (fun _ s'=>∃σ' H',Inv X pins σ' H' s'∧Q σ' H') X.xe s
abbrev TSet:=V->V->V->Hp->(Hp->Prop)->Prop
def PSet (X:Cx) (t:TSet):Prop:=
 ∀(pins:List (Addr×Obj)) (s:Shared) (σ:St) (H:Hp) (o i v:V) (ov iv u:Value) (Q:Hp->Prop),Inv X pins σ H s->RelV o ov->RelV i iv->RelV v u->t o i v H Q->
   wpAny (model X.prog X.w) X.A (setItem ov iv u) (fun _ s'=>∃H',Inv X pins σ H' s'∧Q H') X.xe s
section
variable{X:Cx}{pos:Pos}
def gName(i:Nat):TG:=fun v σ H Q=>Q (σ.set i (some v)) H
theorem pg_name{i:Nat}{x:Str}(hN:X.N.Nodup)(hi:X.N[i]?=some x)(hx:Loc X.env.scope x)(hf:X.fn x=true∨X.env.scope.names.lookup x=some .local:=by first | exact .inl rfl | exact .inr rfl | assumption):PG X (.Name x pos) (gName i):=by
 intro pins s σ H v u Q I r h
 exact wpAny_assign_Name (store_ok I hN hi hx r (fun s' I'=>⟨_,H,I',h⟩) hf)
def gNil:TGs:=fun vs σ H Q=>vs=[]∧Q σ H
def gCons(t:TG)(u:TGs):TGs:=fun vs σ H Q=>∃v r,vs=v::r∧t v σ H fun σ' H'=>u r σ' H' Q
theorem pgs_nil:PGs X [] gNil:=by
 intro pins s σ H vs us Q I r h
 obtain⟨e,h⟩:=h
 subst e
 cases r
 exact assignInOrder_nil ⟨σ,H,I,h⟩
theorem pgs_cons {e:Expr}{es:List Expr}{t:TG}{u:TGs} (h1:PG X e t) (h2:PGs X es u)
  (hs:(assignEach (e::es) X.env).map (·.2)=assign e X.env::(assignEach es X.env).map (·.2):=by rfl):PGs X (e::es) (gCons t u):=by
 intro pins s σ H vs us Q I r h
 obtain⟨v,vr,e1,h⟩:=h
 subst e1
 cases r with
 |cons r rr=>
   rw[hs]
   refine assignInOrder_cons (thn (h1 pins s σ H _ _ _ I r h) fun _ s1 ⟨σ1,H1,I1,q1⟩=>?_)
   exact h2 pins s1 σ1 H1 _ _ Q I1 rr q1
def gTup(K:PySem.W.Frag)(n:Nat)(t:TGs):TG:=fun v σ H Q=>∃a xs,v=.ref a∧SqT K H a xs∧xs.length=n∧t xs σ H Q
theorem pg_tup{es:List Expr}{k:Nat}{t:TGs}{n:Nat}(hc:X.calm=true)(h:PGs X es t)
  (hn:(assignEach es X.env).length=n:=by rfl) (hst:(assignEach es X.env).findIdx? (·.1)=none:=by rfl):PG X (.Tuple es k pos) (gTup X.K n t):=by
 intro pins s σ H v u Q I r hw
 obtain⟨a,xs,e1,hq,hl,hw⟩:=hw
 subst e1
 cases r
 obtain⟨its,rv,ht,hz⟩:=I.tuple hq
 refine assign_Tuple_tuple (I.ok.hd hc) ht (by simp[hn,←hl,rv.length]) hst fun h' hx=>?_
 have I1:Inv X pins σ H { s with heap:=h' }:=I.kept (t':=s.toks) fun b o e=>hx b o (Nat.ne_of_lt (Heap.lt_size e)) e
 exact h pins _ σ H xs _ Q I1 (by simpa using rv) hw
def gSub(to ti:TE)(t:TSet):TG:=fun v σ H Q=>to σ H fun o H1=>ti σ H1 fun i H2=>t o i v H2 fun H3=>Q σ H3
theorem pg_sub {o i:Expr}{to ti:TE}{t:TSet} (ho:PE X o to) (hi:PE X i ti) (hs:PSet X t)
  (ha:∀v,assign (.Subscript o i pos) X.env v=(do
    let ov ←holding [v] (eval o X.env)
    let iv ←holding [v,ov] (eval i X.env)
    standAt pos
    holding [v,ov,iv] (setItem ov iv v)
    release [v,ov,iv] []):=by intro _;rfl):PG X (.Subscript o i pos) (gSub to ti t):=by
 intro pins s σ H v u Q I r h
 rw[ha]
 refine wpAny_bind (wpAny_holding (thn (ho pins s σ H _ I h) fun ov s1 ⟨x,H1,I1,r1,q1⟩=>?_))
 refine wpAny_bind (wpAny_holding (thn (hi pins s1 σ H1 _ I1 q1) fun iv s2 ⟨y,H2,I2,r2,q2⟩=>?_))
 refine wpAny_bind (wpAny_standAt (wpAny_bind (wpAny_holding (thn (hs pins s2 σ H2 x y v ov iv u _ I2 r1 r2 r q2) fun _ s3 ⟨H3,I3,q3⟩=>?_))))
 exact wpAny_release ⟨σ,H3,I3,q3⟩
def tAsg(te:TE)(g:TG):TS:=fun D σ H=>te σ H fun x H1=>g x σ H1 D.nx
theorem ps_asg{tg e:Expr}{te:TE}{g:TG}(he:PE X e te)(hg:PG X tg g)(hs:swapsWithSole [tg] e pos.line X.env=pure false:=by rfl)(hw:swappedStores [tg] e X.env=pure none:=by rfl)
  (h1:(assignEach [tg] X.env).map (·.2)=[assign tg X.env]:=by rfl):PS X (.Assign [tg] e pos) (tAsg te g):=by
 intro pins s σ H D I h
 refine wpAny_Assign_stores (thn (he pins s σ H _ I h) fun v s1 ⟨x,H1,I1,r1,q1⟩=>?_) hs hw
 rw[h1]
 exact thn (hg pins s1 σ H1 x v _ I1 r1 q1) fun _ s2 q=>q
theorem ps_set{i:Nat}{x:Str}{e:Expr}{te:TE}{pos':Pos}(hN:X.N.Nodup)(hi:X.N[i]?=some x)(hx:Loc X.env.scope x)(he:PE X e te)(hs:swapsWith e (some (.Name x pos')) pos.line X.env=pure false:=by rfl)(hf:X.fn x=true∨X.env.scope.names.lookup x=some .local:=by first | exact .inl rfl | exact .inr rfl | assumption) :
  PS X (.Assign [.Name x pos'] e pos) (tAsg te (gName i)):=by
 intro pins s σ H D I h
 refine wpAny_Assign_Name (thn (he pins s σ H _ I h) fun v s1 ⟨y,H1,I1,r1,q1⟩=>?_) hs
 exact store_ok I1 hN hi hx r1 (fun s2 I2=>⟨_,H1,I2,q1⟩) hf
def tPar(i j:Nat)(ta:TA):TS:=fun D σ H=>ta σ H fun vs H1=>∃v w,vs=[v,w]∧D.nx ((σ.set i (some v)).set j (some w)) H1
theorem ps_par {i j:Nat}{x y:Str}{a b:Expr}{ta:TA}{px py pt:Pos}{kt k2 pt2} (hc:X.calm=true) (hN:X.N.Nodup) (hi:X.N[i]?=some x) (hj:X.N[j]?=some y) (hij:i≠j)
  (hx:X.env.scope.names.lookup x=some .local) (hy:X.env.scope.names.lookup y=some .local) (ha:PA X [a,b] ta)
  (hw:swappedStores [.Tuple [.Name x px,.Name y py] kt pt] (.Tuple [a,b] k2 pt2) X.env=pure (some [x,y]))
  (hs:swapsWithSole [.Tuple [.Name x px,.Name y py] kt pt] (.Tuple [a,b] k2 pt2) pos.line X.env=pure false:=by rfl) :
  PS X (.Assign [.Tuple [.Name x px,.Name y py] kt pt] (.Tuple [a,b] k2 pt2) pos) (tPar i j ta):=by
 intro pins s σ H D I h
 rw[exec_Assign_arm]
 refine wpAny_bind (wpAny_standAt ?_)
 rw[hs]
 refine wpAny_bind (wpAny_pure ?_)
 rw[if_neg (by decide)]
 refine wpAny_bind (Tuple_ (thn (ha _ pins s σ H _ I h) fun us s1 ⟨vs,H1,I1,r1,q1⟩=>?_))
 obtain⟨v,w,e1,q1⟩:=q1
 subst e1
 obtain ⟨u1,u2,rfl,rv,rw'⟩:∃ u1 u2,us=[u1,u2]∧RelV v u1∧RelV w u2:=by
  cases r1 with
  | cons p q=>
    cases q with
    |cons p' q'=>
      cases q'
      exact⟨_,_,rfl,p,p'⟩
 refine wpAny_newObj_type ?_ (by show 2≤sizeLine;decide)
 have I2:Inv X pins σ H1 { s1 with heap:=s1.heap.push { cls:=.type "tuple",data:=.seq [u1,u2].toArray } }:=I1.kept (t':=s1.toks) fun b o e=>Heap.get?_push_of_some _ e
 rw[hw]
 refine wpAny_bind (wpAny_pure ?_)
 show wpAny (model X.prog X.w) X.A (do rule "assign.swapped-stores";let items ←unpackItems (.ref s1.heap.objs.size) 2 none;assignInOrder [fun v=>bindName X.env y v,fun v=>bindName X.env x v] items.reverse;pure Flow.next) _ _ _
 refine wpAny_bind (wpAny_rule (wpAny_bind (unpackItems_tuple (items:=#[u1,u2]) (I.ok.hd hc) (IsTup.new s1.heap _) fun h' hx'=>?_)))
 have I3:=I2.kept (h':=h') (t':=s1.toks) fun b o e=>hx' b o (Nat.ne_of_lt (Heap.lt_size e)) e
 show wpAny _ _ (assignInOrder [fun v=>bindName X.env y v,fun v=>bindName X.env x v] [u2,u1]>>=fun _=>pure Flow.next) _ _ _
 refine wpAny_bind (assignInOrder_cons (wpAny_bindName (store_ok I3 hN hj (.inl hy) rw' (fun s2 I4=>?_) (.inr hy))))
 refine assignInOrder_cons (wpAny_bindName (store_ok I4 hN hi (.inl hx) rv (fun s3 I5=>assignInOrder_nil (wpAny_pure ?_)) (.inr hx)))
 rw[List.set_comm _ _ (Ne.symm hij)] at I5
 exact⟨_,H1,I5,q1⟩
end
structure It where
 go:Nat->Hp->Prop
 yld:Nat->Hp->V->Hp->Prop
 stop:Nat->Hp->Prop
def FpOk(X:Cx)(pins:List (Addr×Obj))(H:Hp)(b:Addr):Prop:=
 H b=none∧b≠X.env.locals∧b∉X.fs∧(b∈X.ex∨X.s₀.heap.objs.size≤b)∧(∀x c,X.env.cells.lookup x=some c->c≠b)∧∀p∈X.pn++pins,p.1≠b
theorem Inv.fpOk{X:Cx}{pins:List (Addr×Obj)}{σ:St}{H H':Hp}{s:Shared}{b:Addr}(I:Inv X pins σ H s)(hb:s.heap.objs.size≤b)(hn:H' b=none):FpOk X pins H' b:=by
 refine⟨hn,Nat.ne_of_gt (Nat.lt_of_lt_of_le I.lt hb),I.nofs hb,.inr (Nat.le_trans I.sz hb),fun x c e z=>?_,fun p hp z=>?_⟩
 ·obtain⟨v,q⟩:=I.cell x c e
  exact absurd (Nat.lt_of_lt_of_le q.lt (by rw[z];exact hb)) (Nat.lt_irrefl _)
 ·exact absurd (Nat.lt_of_lt_of_le (Heap.lt_size (I.pin p hp).1) (by rw[z];exact hb)) (Nat.lt_irrefl _)
structure Turn (P:Program) (w:World) (K:PySem.W.Frag) (tg:Expr) (J:It) (fp:List Addr) (it:Addr) (tn:Nat->Heap->Prop):Prop where
 mem:it∈fp
 obj:∀i h,tn i h->∀b∈fp,∃o,h.get? b=some o∧∀v,o.data≠.cell v
 keep:∀i h h',tn i h->(∀b∈fp,∀o,h.get? b=some o->h'.get? b=some o)->tn i h'
 item:∀(X:Cx),X.prog=P->X.w=w->X.K=K->X.calm=true->∀(i:Nat) (pins:List (Addr×Obj)) (s:Shared) (σ:St) (H:Hp) (E:Value->Shared->Prop),Inv X pins σ H s->(∀b∈fp,FpOk X pins H b)->tn i s.heap->J.go i H->
  wpAny (model P w) X.A (pyNext (.ref it)) (fun r s1=>∃u,r=some u ∧
   wpAny (model P w) X.A (letOwnedTupleGo tg (.ref it) u) (fun _ s2=>∃x H',Inv X pins σ H' s2∧RelV x u∧J.yld i H x H'∧tn (i+1) s2.heap∧∀b∈fp,H' b=none) E s1) E s
 done:∀(X:Cx),X.prog=P->X.w=w->X.K=K->X.calm=true->∀(i:Nat) (pins:List (Addr×Obj)) (s:Shared) (σ:St) (H:Hp) (E:Value->Shared->Prop),Inv X pins σ H s->(∀b∈fp,FpOk X pins H b)->tn i s.heap->J.stop i H->
  wpAny (model P w) X.A (pyNext (.ref it)) (fun r s1=>r=none∧Inv X pins σ H s1) E s
 self:∀(A:Around) (i:Nat) (s:Shared) (Q:Value->Shared->Prop) (E:Value->Shared->Prop),tn i s.heap->Q (.ref it) s->wpAny (model P w) A (pyIter (.ref it)) Q E s
abbrev TI:=St->Hp->(It->Hp->Prop)->Prop
def PIE(X:Cx)(pins:List (Addr×Obj))(σ:St)(tg:Expr)(R:It->Hp->Prop)(itv:Value)(s2:Shared):Prop:=
 ∃(it:Addr) (fp:List Addr) (tn:Nat->Heap->Prop) (J:It) (H':Hp),itv=.ref it∧Inv X pins σ H' s2∧Turn X.prog X.w X.K tg J fp it tn∧tn 0 s2.heap∧(∀b∈fp,FpOk X pins H' b)∧R J H'
def PI (X:Cx) (tg iter:Expr) (wi:TI):Prop:=
 ∀(pins:List (Addr×Obj)) (s:Shared) (σ:St) (H:Hp) (R:It->Hp->Prop),Inv X pins σ H s->wi σ H R->
   wpAny (model X.prog X.w) X.A (eval iter X.env) (fun v s1=>wpAny (model X.prog X.w) X.A (pyIter v) (PIE X pins σ tg R) X.xe s1) X.xe s
theorem go_of {M:Model}{A:Around}{E:Value->Shared->Prop}{s:Shared}{tg:Expr}{it:Addr}{u:Value}{o:Obj}{n:String}{vs:Array Value}{Q:Unit->Shared->Prop} (ho:s.heap.get? it=some o) (hc:o.cls=.type n) (hd:o.data=.fields vs)
  (hn:["enumerate", "zip", "dict_itemiterator", "dict_reverseitemiterator", "odict_iterator", "itertools.zip_longest", "itertools.pairwise"].contains n=false) (hQ:Q () s):wpAny M A (letOwnedTupleGo tg (.ref it) u) Q E s:=by
 unfold letOwnedTupleGo
 cases tg<;>first
  |exact wpAny_pure hQ
  | (cases u<;>first
      |exact wpAny_pure hQ
      | (refine wpAny_bind (wpAny_load ho ?_)
         rw[hc,hd]
         show wpAny M A (if (["enumerate", "zip", "dict_itemiterator", "dict_reverseitemiterator", "odict_iterator", "itertools.zip_longest", "itertools.pairwise"].contains n&&vs[0]?==some (rawInt _))=true then _ else _) Q E s
         rw[if_neg (by intro h;rw[hn,Bool.false_and] at h;cases h)]
         exact wpAny_pure hQ))
def Itl(K:PySem.W.Frag)(a:Addr):It:=
 ⟨fun i H=>∃xs x,SqL K H a xs∧xs[i]?=some x,fun i H x H'=>H'=H∧∀xs,SqL K H a xs->xs[i]?=some x,fun i H=>∃xs,SqL K H a xs∧xs.length≤i⟩
def Itt(K:PySem.W.Frag)(a:Addr):It:=
 ⟨fun i H=>∃xs x,SqT K H a xs∧xs[i]?=some x,fun i H x H'=>H'=H∧∀xs,SqT K H a xs->xs[i]?=some x,fun i H=>∃xs,SqT K H a xs∧xs.length≤i⟩
def Itr(lo:Int)(n:Nat):It:=⟨fun i _=>i<n,fun i H x H'=>H'=H∧x=.int (lo+i),fun i _=>n≤i⟩
theorem turn_list{P:Program}{w:World}{K:PySem.W.Frag}{tg:Expr}(a it:Addr):Turn P w K tg (Itl K a) [it] it (fun i h=>h.IsListIter it a i) where
 mem:=by simp
 obj:=fun i h st b hb=>by
  have e:b=it:=by simpa using hb
  subst e
  obtain⟨o,e,c,d⟩:=st
  exact⟨o,e,fun v z=>by rw[d] at z;cases z⟩
 keep:=fun i h h' st k=>st.at fun o e=>k it (by simp) o e
 item:=by
  intro X hP hw hK hc i pins s σ H E I hf st hg
  subst hP hw hK
  obtain⟨xs,x,hq,hx⟩:=hg
  obtain⟨its,rv,p,hz⟩:=I.list hq
  obtain⟨u,hu,ru⟩:=rv.get hx
  obtain⟨f0,f1,f2,f3,f4,f5⟩:=hf it (by simp)
  refine wpAny_pyNext_list_item st p.isList (x:=u) (by simpa using hu) fun h' st' sb=>?_
  have I1:Inv X pins σ H { s with heap:=h' }:=I.turned (t':=s.toks) (fun b o hb e=>(sb.2 b hb).trans e) f0 f1 f3 f4 f5
  obtain⟨o,e,c,d⟩:=id st'
  exact⟨u,rfl,go_of (s:={ s with heap:=h' }) e c d (by decide) ⟨x,H,I1,ru,⟨rfl,fun ys hy=>by rw[I.list_inj hy hq];exact hx⟩,st',fun b hb=>(hf b hb).1⟩⟩
 done:=by
  intro X hP hw hK hc i pins s σ H E I hf st hg
  subst hP hw hK
  obtain⟨xs,hq,hx⟩:=hg
  obtain⟨its,rv,p,hz⟩:=I.list hq
  obtain⟨f0,f1,f2,f3,f4,f5⟩:=hf it (by simp)
  have hl:=rv.length
  exact wpAny_pyNext_list_end (I.ok.hd hc) st p.isList (by simp;omega) fun h' eb=>⟨rfl,I.turned (t':=s.toks) (fun b o hb e=>eb b o hb e) f0 f1 f3 f4 f5⟩
 self:=fun _ _ _ _ _ st h=>wpAny_pyIter_listiter st h
theorem turn_tuple{P:Program}{w:World}{K:PySem.W.Frag}{tg:Expr}(a it:Addr):Turn P w K tg (Itt K a) [it] it (fun i h=>h.IsTupleIter it a i) where
 mem:=by simp
 obj:=fun i h st b hb=>by
  have e:b=it:=by simpa using hb
  subst e
  obtain⟨o,e,c,d⟩:=st
  exact⟨o,e,fun v z=>by rw[d] at z;cases z⟩
 keep:=fun i h h' st k=>st.at fun o e=>k it (by simp) o e
 item:=by
  intro X hP hw hK hc i pins s σ H E I hf st hg
  subst hP hw hK
  obtain⟨xs,x,hq,hx⟩:=hg
  obtain⟨its,rv,p,hz⟩:=I.tuple hq
  obtain⟨u,hu,ru⟩:=rv.get hx
  obtain⟨f0,f1,f2,f3,f4,f5⟩:=hf it (by simp)
  refine wpAny_pyNext_tuple_item st (show s.heap.IsTuple a its.toArray from p) (x:=u) (by simpa using hu) fun h' st' sb=>?_
  have I1:Inv X pins σ H { s with heap:=h' }:=I.turned (t':=s.toks) (fun b o hb e=>(sb.2 b hb).trans e) f0 f1 f3 f4 f5
  obtain⟨o,e,c,d⟩:=id st'
  exact⟨u,rfl,go_of (s:={ s with heap:=h' }) e c d (by decide) ⟨x,H,I1,ru,⟨rfl,fun ys hy=>by rw[I.tuple_inj hy hq];exact hx⟩,st',fun b hb=>(hf b hb).1⟩⟩
 done:=by
  intro X hP hw hK hc i pins s σ H E I hf st hg
  subst hP hw hK
  obtain⟨xs,hq,hx⟩:=hg
  obtain⟨its,rv,p,hz⟩:=I.tuple hq
  obtain⟨f0,f1,f2,f3,f4,f5⟩:=hf it (by simp)
  have hl:=rv.length
  exact wpAny_pyNext_tuple_end (I.ok.hd hc) st (show s.heap.IsTuple a its.toArray from p) (by simp;omega) fun h' eb=>⟨rfl,I.turned (t':=s.toks) (fun b o hb e=>eb b o hb e) f0 f1 f3 f4 f5⟩
 self:=fun _ _ _ _ _ st h=>wpAny_pyIter_tupleiter st h
theorem turn_range {P:Program}{w:World}{K:PySem.W.Frag}{tg:Expr} (it:Addr) (lo:Int) (n:Nat):Turn P w K tg (Itr lo n) [it] it (fun i h=>IsRangeIter h it (lo + (i:Nat) * 1) ((n:Int) - (i:Nat)) 1) where
 mem:=by simp
 obj:=fun i h st b hb=>by
  have e:b=it:=by simpa using hb
  subst e
  exact⟨_,st,fun v z=>by
   have z':Data.fields _=Data.cell v:=z
   cases z'⟩
 keep:=fun i h h' st k=>k it (by simp) _ st
 item:=by
  intro X hP hw hK hc i pins s σ H E I hf st hg
  subst hP hw hK
  obtain⟨f0,f1,f2,f3,f4,f5⟩:=hf it (by simp)
  have W:=Walks.range (prog:=X.prog) (w:=X.w) (I.ok.hd hc) it lo 1 n
  refine W.item i s _ _ hg st fun v h' tk hv st' kk=>?_
  obtain⟨t,rfl⟩:=hv
  have I1:Inv X pins σ H { s with heap:=h',toks:=tk }:=I.turned (fun b o hb e=>kk b o (by simpa using hb) e) f0 f1 f3 f4 f5
  refine⟨_,rfl,go_of (s:={ s with heap:=h',toks:=tk }) (n := "range_iterator") st' rfl rfl (by decide) ⟨.int (lo+i),H,I1,⟨t,?_⟩,⟨rfl,rfl⟩,st',fun b hb=>(hf b hb).1⟩⟩
  rw[Int.mul_one]
 done:=by
  intro X hP hw hK hc i pins s σ H E I hf st hg
  subst hP hw hK
  obtain⟨f0,f1,f2,f3,f4,f5⟩:=hf it (by simp)
  exact wpAny_pyNext_range_end (I.ok.hd hc) st (by have:n≤i:=hg;omega) fun h' eb=>⟨rfl,I.turned (t':=s.toks) (fun b o hb e=>eb b o hb e) f0 f1 f3 f4 f5⟩
 self:=fun _ _ _ _ _ st h=>wpAny_pyIter_rangeiter st h
open PySem PySem.Spec PyProof.Rows
section
variable{X:Cx}{tg:Expr}
def iList(K:PySem.W.Frag)(tl:TE):TI:=fun σ H R=>tl σ H fun x H1=>∃a,x=.ref a∧(∃xs,SqL K H1 a xs)∧R (Itl K a) H1
def iTup(K:PySem.W.Frag)(tl:TE):TI:=fun σ H R=>tl σ H fun x H1=>∃a,x=.ref a∧(∃xs,SqT K H1 a xs)∧R (Itt K a) H1
theorem pi_list{l:Expr}{tl:TE}(hl:PE X l tl):PI X tg l (iList X.K tl):=by
 intro pins s σ H R I h
 refine thn (hl pins s σ H _ I h) fun v s1 ⟨x,H1,I1,r1,q1⟩=>?_
 obtain⟨a,e,⟨xs,hq⟩,q⟩:=q1
 subst e
 cases r1
 obtain⟨its,rv,p,hz⟩:=I1.list hq
 refine wpAny_pyIter_list p.isList ?_
 refine⟨s1.heap.objs.size,[s1.heap.objs.size],_,_,H1,rfl,I1.kept (t':=s1.toks) fun b o e=>Heap.get?_push_of_some _ e,turn_list a _,⟨_,Heap.get?_push_size _ rfl,rfl,rfl⟩,fun b hb=>?_,q⟩
 have e:b=s1.heap.objs.size:=by simpa using hb
 subst e
 exact I1.fpOk (Nat.le_refl _) (I1.hok.fresh (Nat.le_refl _))
theorem pi_tup{l:Expr}{tl:TE}(hl:PE X l tl):PI X tg l (iTup X.K tl):=by
 intro pins s σ H R I h
 refine thn (hl pins s σ H _ I h) fun v s1 ⟨x,H1,I1,r1,q1⟩=>?_
 obtain⟨a,e,⟨xs,hq⟩,q⟩:=q1
 subst e
 cases r1
 obtain⟨its,rv,p,hz⟩:=I1.tuple hq
 refine wpAny_pyIter_tuple (show s1.heap.IsTuple a its.toArray from p) ?_
 refine⟨s1.heap.objs.size,[s1.heap.objs.size],_,_,H1,rfl,I1.kept (t':=s1.toks) fun b o e=>Heap.get?_push_of_some _ e,turn_tuple a _,⟨_,Heap.get?_push_size _ rfl,rfl,rfl⟩,fun b hb=>?_,q⟩
 have e:b=s1.heap.objs.size:=by simpa using hb
 subst e
 exact I1.fpOk (Nat.le_refl _) (I1.hok.fresh (Nat.le_refl _))
theorem range_it{pins:List (Addr×Obj)}{σ:St}{H:Hp}{s:Shared}{R:It->Hp->Prop}{E:Value->Shared->Prop}{lo hi:Int}{t u v:Tok}{tk:Nat}(I:Inv X pins σ H s)(h1:-(2^62)≤lo)(h2:lo<2^62)(h3:-(2^62)≤hi)(h4:hi<2^62)
  (q:R (Itr lo (hi-lo).toNat) H):wpAny (model X.prog X.w) X.A (pyIter (.ref s.heap.objs.size)) (PIE X pins σ tg R) E { s with heap:=s.heap.push { cls:=.type "range",data:=.fields #[.int lo t,.int hi u,.int 1 v] },toks:=tk }:=by
 refine wpAny_pyIter_range (IsRange.new ..) (small_one h1 h2 h3 h4) ?_
 have I1:Inv X pins σ H { s with heap:=s.heap.push { cls:=.type "range",data:=.fields #[.int lo t,.int hi u,.int 1 v] },toks:=tk }:=I.kept fun b o e=>Heap.get?_push_of_some _ e
 refine⟨(s.heap.push { cls:=.type "range",data:=.fields #[.int lo t,.int hi u,.int 1 v] }).objs.size,[(s.heap.push { cls:=.type "range",data:=.fields #[.int lo t,.int hi u,.int 1 v] }).objs.size],_,_,H,rfl,
  I1.kept (t':=tk) fun b o e=>Heap.get?_push_of_some _ e,turn_range _ lo (hi-lo).toNat,?_,fun b hb=>?_,q⟩
 ·have e1:lo+((0:Nat):Int)*1=lo:=by simp
  have e2:(((hi-lo).toNat:Nat):Int)-((0:Nat):Int)=Builtin.Range.rangeSize lo hi 1:=by rw[rangeSize_one];split<;>omega
  show IsRangeIter _ _ (lo+((0:Nat):Int)*1) ((((hi-lo).toNat:Nat):Int)-((0:Nat):Int)) 1
  rw[e1,e2]
  exact Heap.get?_push_size _ rfl
 ·have e:b=(s.heap.push { cls:=.type "range",data:=.fields #[.int lo t,.int hi u,.int 1 v] }).objs.size:=by simpa using hb
  subst e
  exact I1.fpOk (Nat.le_refl _) (I1.hok.fresh (Nat.le_refl _))
def iRng1(ta:TA):TI:=fun σ H R=>ta σ H fun vs H1=>∃j:Int,vs=[.int j]∧-(2^62)≤j∧j<2^62∧R (Itr 0 j.toNat) H1
theorem pi_range1 {a:Expr}{ta:TA}{p pos:Pos} (hg:Gl X "range") (hm:X.mg "range"=none) (ha:PA X [a] ta) (hs:starEach [a] X.env=[(false,eval a X.env)]:=by rfl):PI X tg (.Call (.Name "range" p) [a] [] pos) (iRng1 ta):=by
 intro pins s σ H R I h
 refine Call_ (ld_blt I hg hm boot_range (PyProof.Rows.callWith_type1 (thn (ha pos pins s σ H _ I h) fun us s1 ⟨vs,H1,I1,r1,q1⟩=>?_) hs rfl))
 obtain⟨j,e,q1,q2,q⟩:=q1
 subst e
 cases r1 with
 |cons r rr=>
   cases rr
   obtain⟨t,rfl⟩:=r
   exact call_range_1 (range_it I1 (by omega) (by omega) q1 q2 (by simpa using q))
def tFor(wi:TI)(g:TG)(tb:TS):TS:=fun D σ H=>wi σ H fun J H1=>∃W:Nat->Nat->St->Hp->Prop,(∃m,W 0 m σ H1)∧∀i m σ H,W i m σ H->
 (J.stop i H∧D.nx σ H)∨(J.go i H∧∃N:St->Hp->Prop,(∀σ' H',N σ' H'->∃m',m'<m∧W (i+1) m' σ' H')∧∀x H',J.yld i H x H'->g x σ H' fun σ2 H2=>tb { D with nx:=N,ct:=N,bk:=D.nx } σ2 H2)
def pinsAt(fp:List Addr)(h:Heap):List (Addr×Obj):=fp.filterMap fun b=>(h.get? b).map fun o=>(b,o)
theorem mem_pinsAt{fp:List Addr}{h:Heap}{b:Addr}{o:Obj}(hb:b∈fp)(e:h.get? b=some o):(b,o)∈pinsAt fp h:=List.mem_filterMap.mpr ⟨b,hb,by rw[e];rfl⟩
theorem of_pinsAt {fp:List Addr}{h:Heap}{p:Addr×Obj} (hp:p∈pinsAt fp h):p.1∈fp∧h.get? p.1=some p.2:=by
 obtain⟨b,hb,e⟩:=List.mem_filterMap.mp hp
 cases q:h.get? b with
 |none=>rw[q] at e;cases e
 |some o=>
   rw[q] at e
   have e':(b,o)=p:=Option.some.inj e
   subst e'
   exact⟨hb,q⟩
theorem Inv.pinned{pins:List (Addr×Obj)}{σ:St}{H:Hp}{s:Shared}{fp:List Addr}(I:Inv X pins σ H s)(hf:∀b∈fp,FpOk X pins H b)(ho:∀b∈fp,∃o,s.heap.get? b=some o∧∀v,o.data≠.cell v):Inv X (pins++pinsAt fp s.heap) σ H s:=
 I.pins_of fun p hp=>(List.mem_append.mp hp).elim (fun z=>I.pin p (List.mem_append_right _ z)) fun z=>by
  obtain⟨hb,e⟩:=of_pinsAt z
  obtain⟨f0,f1,f2,_⟩:=hf p.1 hb
  obtain⟨o,e',d⟩:=ho p.1 hb
  rw[e] at e';cases e'
  exact⟨e,f0,f1,f2,d⟩
theorem Inv.unpinned{pins pl:List (Addr×Obj)}{σ:St}{H:Hp}{s:Shared}(I:Inv X (pins++pl) σ H s):Inv X pins σ H s:=I.pins_of fun p hp=>I.pin p (List.mem_append_right _ (List.mem_append_left _ hp))
theorem ps_for {iter:Expr}{body:List Stmt}{wi:TI}{g:TG}{tb:TS}{pos:Pos} (hp:PassesOwn (model X.prog X.w) X.A X.env X.xe) (hc:X.calm=true) (hi:PI X tg iter wi) (hg:PG X tg g) (hb:PSs X body tb)
  (hs:∀x,foldedSetIterable iter X.env x=pure x:=by intro _;rfl):PS X (.For tg iter body [] pos) (tFor wi g tb):=by
 intro pins s σ H D I h
 refine wpAny_For (thn (hi pins s σ H _ I h) fun v s1 h1=>thn h1 fun itv s2 h2=>?_) hs
 obtain⟨it,fp,tn,J,H2,e,I2,T,st2,f2,W,⟨m0,w0⟩,turn⟩:=h2
 subst e
 -- what stays true of the iterator's objects through the loop
 have stat:∀{H':Hp},(∀b∈fp,H' b=none)->∀b∈fp,FpOk X pins H' b:=fun hn b hb=>⟨hn b hb,(f2 b hb).2⟩
 refine codeAny_forLoop_any (fun n s'=>∃i σ' H',Inv X pins σ' H' s'∧tn i s'.heap∧(∀b∈fp,H' b=none)∧W i n σ' H') ?_ m0 ⟨0,σ,H2,I2,st2,fun b hb=>(f2 b hb).1,w0⟩
 rintro n s3 ⟨i,σ3,H3,I3,st3,fr3,w3⟩
 rcases turn i n σ3 H3 w3 with ⟨stop,qn⟩ | ⟨go,N,hN,step⟩
 ·refine wpAny_passesOwn hp (thn (T.done X rfl rfl rfl hc i pins s3 σ3 H3 X.xe I3 (stat fr3) st3 stop) fun r s4 ⟨hr,I4⟩=>?_)
  subst hr
  exact wpAny_execs_nil ⟨σ3,H3,I4,qn⟩
 ·refine wpAny_passesOwn hp (thn (T.item X rfl rfl rfl hc i pins s3 σ3 H3 X.xe I3 (stat fr3) st3 go) fun r s4 ⟨u,hr,h4⟩=>?_)
  subst hr
  refine wpAny_passesOwn hp (thn h4 fun _ s5 ⟨x,H5,I5,r5,y5,st5,fr5⟩=>?_)
  have I5':=I5.pinned (stat fr5) (T.obj _ _ st5)
  refine wpAny_passesOwn hp (thn (hg _ s5 σ3 H5 x u _ I5' r5 (step x H5 y5)) fun _ s6 ⟨σ6,H6,I6,q6⟩=>?_)
  refine wpAny_passesOwn hp (thn (hb _ s6 σ6 H6 _ I6 q6) fun f s7 q7=>?_)
  have again:∀{σ7:St}{H7:Hp},Inv X (pins++pinsAt fp s5.heap) σ7 H7 s7->N σ7 H7->∃m,m<n∧∃i σ' H',Inv X pins σ' H' s7∧tn i s7.heap∧(∀b∈fp,H' b=none)∧W i m σ' H':=fun {σ7 H7} I7 n7=>by
   obtain⟨m',hm,w7⟩:=hN σ7 H7 n7
   refine⟨m',hm,i+1,σ7,H7,I7.unpinned,T.keep _ _ _ st5 fun b hb o e=>(I7.pin (b,o) (List.mem_append_right _ (List.mem_append_right _ (mem_pinsAt hb e)))).1,fun b hb=>?_,w7⟩
   obtain⟨o,e,d⟩:=T.obj _ _ st5 b hb
   exact (I7.pin (b,o) (List.mem_append_right _ (List.mem_append_right _ (mem_pinsAt hb e)))).2.1
  cases f with
  |next=>obtain⟨σ7,H7,I7,n7⟩:=q7;exact again I7 n7
  |cont=>obtain⟨σ7,H7,I7,n7⟩:=q7;exact again I7 n7
  |brk=>obtain⟨σ7,H7,I7,q7⟩:=q7;exact⟨σ7,H7,I7.unpinned,q7⟩
  |ret v=>obtain⟨x7,σ7,H7,I7,r7,q7⟩:=q7;exact⟨x7,σ7,H7,I7.unpinned,r7,q7⟩
end
open PySem PySem.Spec PyProof.Rows
abbrev R2:=V->V->Hp->VK->Prop
def OpR (X:Cx) (f:Value->Value->Sem Value) (r:R2):Prop:=
 ∀(pins:List (Addr×Obj)) (s:Shared) (σ:St) (H:Hp) (x y:V) (v u:Value) (Q:VK),Inv X pins σ H s->RelV x v->RelV y u->r x y H Q->
   wpAny (model X.prog X.w) X.A (f v u) (EP X pins σ Q) X.xe s
def UnR (X:Cx) (f:Value->Sem Value) (r:V->Hp->VK->Prop):Prop:=
 ∀(pins:List (Addr×Obj)) (s:Shared) (σ:St) (H:Hp) (x:V) (v:Value) (Q:VK),Inv X pins σ H s->RelV x v->r x H Q->
   wpAny (model X.prog X.w) X.A (f v) (EP X pins σ Q) X.xe s
def CallR (X:Cx) (f:Value) (r:List V->Hp->VK->Prop):Prop:=
 ∀(pins:List (Addr×Obj)) (s:Shared) (σ:St) (H:Hp) (xs:List V) (us:List Value) (Q:VK),Inv X pins σ H s->Vals xs us->r xs H Q->
   wpAny (model X.prog X.w) X.A (call f us) (EP X pins σ Q) X.xe s
def TruR (X:Cx) (r:V->Hp->(Bool->Hp->Prop)->Prop):Prop:=
 ∀(pins:List (Addr×Obj)) (s:Shared) (σ:St) (H:Hp) (x:V) (v:Value) (Q:Bool->Hp->Prop),Inv X pins σ H s->RelV x v->r x H Q->
   wpAny (model X.prog X.w) X.A (truthy v) (TP X pins σ Q) X.xe s
def tOp(r:R2)(ta tb:TE):TE:=fun σ H Q=>ta σ H fun x H1=>tb σ H1 fun y H2=>r x y H2 Q
def tUn(r:V->Hp->VK->Prop)(ta:TE):TE:=fun σ H Q=>ta σ H fun x H1=>r x H1 Q
def rI(C:Int->Int->Prop)(g:Int->Int->V):R2:=fun x y H Q=>∃i j,x=.int i∧y=.int j∧C i j∧Q (g i j) H
def rI0(g:Int->Int->V):R2:=fun x y H Q=>∃i j,x=.int i∧y=.int j∧Q (g i j) H
def rU(g:Int->V):V->Hp->VK->Prop:=fun x H Q=>∃i,x=.int i∧Q (g i) H
section
variable{X:Cx}{a b c:Expr}{ta tb tc:TE}{pos:Pos}
theorem binT(ha:PE X a ta)(hb:PE X b tb){pins:List (Addr×Obj)}{s:Shared}{σ:St}{H:Hp}{R:V->V->Hp->Prop}(I:Inv X pins σ H s)
  (h:ta σ H fun x H1=>tb σ H1 fun y H2=>R x y H2) {Q:Value->Shared->Prop}{f:Value->Value->Sem Value}
  (hf:∀v u s2 x y H2,Inv X pins σ H2 s2->RelV x v->RelV y u->R x y H2->wpAny (model X.prog X.w) X.A (f v u) Q X.xe s2) :
  wpAny (model X.prog X.w) X.A (eval a X.env) (fun v s₁=>wpAny (model X.prog X.w) X.A (eval b X.env) (fun u s₂=>wpAny (model X.prog X.w) X.A (f v u) Q X.xe s₂) X.xe s₁) X.xe s:=by
 refine thn (ha pins s σ H _ I h) fun v s1 ⟨x,H1,I1,r1,q1⟩=>?_
 refine thn (hb pins s1 σ H1 _ I1 q1) fun u s2 ⟨y,H2,I2,r2,q2⟩=>?_
 exact hf v u s2 x y H2 I2 r1 r2 q2
theorem pe_op{op:Operator}{r:R2}(ho:OpR X (binaryOp op) r)(ha:PE X a ta)(hb:PE X b tb):PE X (.BinOp a op b pos) (tOp r ta tb):=by
 intro pins s σ H Q I h
 exact wpAny_BinOp (binT ha hb I h fun v u s2 x y H2 I2 rx ry q=>ho pins s2 σ H2 x y v u Q I2 rx ry q)
theorem pe_un{op:UnaryOp}{r:V->Hp->VK->Prop}(ho:UnR X (unaryOp op) r)(ha:PE X a ta):PE X (.UnaryOp op a pos) (tUn r ta):=by
 intro pins s σ H Q I h
 exact UnaryOp_ (thn (ha pins s σ H _ I h) fun v s1 ⟨x,H1,I1,r1,q1⟩=>ho pins s1 σ H1 x v Q I1 r1 q1)
theorem opI{f:Value->Value->Sem Value}{C:Int->Int->Prop}{g:Int->Int->Int}
  (rule:∀(i j:Int) (t u:Tok) (s:Shared) (Q:Value->Shared->Prop) (E:Value->Shared->Prop),C i j->Q (.int (g i j) s.toks) { s with toks:=s.toks+1 }->wpAny (model X.prog X.w) X.A (f (.int i t) (.int j u)) Q E s) :
  OpR X f (rI C fun i j=>.int (g i j)):=by
 intro pins s σ H x y v u Q I rx ry h
 obtain⟨i,j,rfl,rfl,hc,q⟩:=h
 obtain⟨t,rfl⟩:=rx
 obtain⟨t',rfl⟩:=ry
 exact rule i j t t' s _ _ hc ⟨.int (g i j),H,I.tok _,⟨_,rfl⟩,q⟩
theorem opI0{f:Value->Value->Sem Value}{g:Int->Int->Int}
  (rule:∀(i j:Int) (t u:Tok) (s:Shared) (Q:Value->Shared->Prop) (E:Value->Shared->Prop),Q (.int (g i j) s.toks) { s with toks:=s.toks+1 }->wpAny (model X.prog X.w) X.A (f (.int i t) (.int j u)) Q E s) :
  OpR X f (rI0 fun i j=>.int (g i j)):=by
 intro pins s σ H x y v u Q I rx ry h
 obtain⟨i,j,rfl,rfl,q⟩:=h
 obtain⟨t,rfl⟩:=rx
 obtain⟨t',rfl⟩:=ry
 exact rule i j t t' s _ _ ⟨.int (g i j),H,I.tok _,⟨_,rfl⟩,q⟩
theorem opB0{f:Value->Value->Sem Value}{g:Int->Int->Bool}
  (rule:∀(i j:Int) (t u:Tok) (s:Shared) (Q:Value->Shared->Prop) (E:Value->Shared->Prop),Q (.bool (g i j)) s->wpAny (model X.prog X.w) X.A (f (.int i t) (.int j u)) Q E s) :
  OpR X f (rI0 fun i j=>.bl (g i j)):=by
 intro pins s σ H x y v u Q I rx ry h
 obtain⟨i,j,rfl,rfl,q⟩:=h
 obtain⟨t,rfl⟩:=rx
 obtain⟨t',rfl⟩:=ry
 exact rule i j t t' s _ _ ⟨.bl (g i j),H,I,rfl,q⟩
def CPow(i j:Int):Prop:=0≤j∧j≤1000000∧i.natAbs<2^64
theorem op_add:OpR X (binaryOp .Add) (rI0 fun i j=>.int (i+j)):=opI0 fun _ _ _ _ _ _ _ q=>add_int q
theorem op_sub:OpR X (binaryOp .Sub) (rI0 fun i j=>.int (i-j)):=opI0 fun _ _ _ _ _ _ _ q=>sub_int q
theorem op_mod:OpR X (binaryOp .Mod) (rI (fun _ j=>0<j) fun i j=>.int (i%j)):=opI fun i j _ _ _ _ _ hc q=>by
 have h1:(0:Int)<j:=hc
 exact mod_int' (by omega) (by rw[Int.fmod_eq_emod_of_nonneg i (by omega)];exact q)
theorem op_pow:OpR X (binaryOp .Pow) (rI CPow fun i j=>.int (i^j.toNat)):=opI fun _ _ _ _ _ _ _ hc q=>pow_int_small hc.1 hc.2.1 hc.2.2 q
theorem unI{f:Value->Sem Value}{g:Int->Int}
  (rule:∀(i:Int) (t:Tok) (s:Shared) (Q:Value->Shared->Prop) (E:Value->Shared->Prop),Q (.int (g i) s.toks) { s with toks:=s.toks+1 }->wpAny (model X.prog X.w) X.A (f (.int i t)) Q E s) :
  UnR X f (rU fun i=>.int (g i)):=by
 intro pins s σ H x v Q I rx h
 obtain⟨i,rfl,q⟩:=h
 obtain⟨t,rfl⟩:=rx
 exact rule i t s _ _ ⟨.int (g i),H,I.tok _,⟨_,rfl⟩,q⟩
theorem un_neg:UnR X (unaryOp .USub) (rU fun i=>.int (-i)):=unI fun _ _ _ _ _ q=>neg_int q
end
def scal:V->V->Bool
 |.non,.non=>true | .non,.int _=>true | .int _,.non=>true | .non,.bl _=>true | .bl _,.non=>true | .non,.str _=>true | .str _,.non=>true
 |.int _,.int _=>true | .bl _,.bl _=>true | .str _,.str _=>true | .byt _,.byt _=>true
 |.int _,.str _=>true | .str _,.int _=>true | .bl _,.str _=>true | .str _,.bl _=>true
 |_,_=>false
def rEq:R2:=fun x y H Q=>scal x y=true∧Q (.bl (decide (x=y))) H
def rNe:R2:=fun x y H Q=>scal x y=true∧Q (.bl (!decide (x=y))) H
theorem dec_int{i j:Int}:decide (V.int i=V.int j)=(i==j):=by
 rw[Bool.eq_iff_iff]
 simp
theorem dec_bl{i j:Bool}:decide (V.bl i=V.bl j)=(i==j):=by
 rw[Bool.eq_iff_iff]
 simp
theorem dec_str{i j:Str}:decide (V.str i=V.str j)=(i==j):=by
 rw[Bool.eq_iff_iff]
 simp
theorem dec_byt{i j:Array UInt8}:decide (V.byt i=V.byt j)=(i.toList==j.toList):=by
 rw[Bool.eq_iff_iff]
 cases i
 cases j
 simp
section
variable{X:Cx}{a b c:Expr}{ta tb tc:TE}{pos:Pos}
theorem fin_bl{pins:List (Addr×Obj)}{σ:St}{H:Hp}{s:Shared}{Q:VK}{k k':Bool}(I:Inv X pins σ H s)(q:Q (.bl k) H)(e:k=k'):EP X pins σ Q (.bool k') s:=by
 subst e
 exact⟨.bl k,H,I,rfl,q⟩
theorem op_eq:OpR X (compareOp .Eq) rEq:=by
 intro pins s σ H x y v u Q I rx ry h
 obtain⟨hs,q⟩:=h
 cases x with
 |non=>
   cases rx
   cases y with
   |non=>cases ry;exact PySem.EqNone.eq_none_none (fin_bl I q (by simp))
   |bl j=>cases ry;exact PySem.EqNone.eq_none_bool (fin_bl I q (by simp))
   |int j=>obtain⟨t',rfl⟩:=ry;exact PySem.EqNone.eq_none_int (fin_bl I q (by simp))
   |str j=>obtain⟨t',rfl⟩:=ry;exact PySem.EqNone.eq_none_str (fin_bl I q (by simp))
   |_=>exact absurd (show false=true from hs) Bool.false_ne_true
 |bl i=>
   cases rx
   cases y with
   |non=>cases ry;exact PySem.EqNone.eq_bool_none (fin_bl I q (by simp))
   |bl j=>cases ry;exact eq_bool (fin_bl I q dec_bl)
   |str j=>obtain⟨t',rfl⟩:=ry;exact PySem.EqMixed.eq_bool_str (fin_bl I q (by simp))
   |_=>exact absurd (show false=true from hs) Bool.false_ne_true
 |int i=>
   obtain⟨t,rfl⟩:=rx
   cases y with
   |non=>cases ry;exact PySem.EqNone.eq_int_none (fin_bl I q (by simp))
   |int j=>obtain⟨t',rfl⟩:=ry;exact eq_int (fin_bl I q dec_int)
   |str j=>obtain⟨t',rfl⟩:=ry;exact PySem.EqMixed.eq_int_str (fin_bl I q (by simp))
   |_=>exact absurd (show false=true from hs) Bool.false_ne_true
 |str i=>
   obtain⟨t,rfl⟩:=rx
   cases y with
   |non=>cases ry;exact PySem.EqNone.eq_str_none (fin_bl I q (by simp))
   |bl j=>cases ry;exact PySem.EqMixed.eq_str_bool (fin_bl I q (by simp))
   |int j=>obtain⟨t',rfl⟩:=ry;exact PySem.EqMixed.eq_str_int (fin_bl I q (by simp))
   |str j=>obtain⟨t',rfl⟩:=ry;exact eq_str (fin_bl I q dec_str)
   |_=>exact absurd (show false=true from hs) Bool.false_ne_true
 |byt i=>
   obtain⟨t,rfl⟩:=rx
   cases y with
   |byt j=>obtain⟨t',rfl⟩:=ry;exact PySem.W.eq_bytes (fin_bl I q dec_byt)
   |_=>exact absurd (show false=true from hs) Bool.false_ne_true
 |_=>cases y<;>exact absurd (show false=true from hs) Bool.false_ne_true
theorem op_ne:OpR X (compareOp .NotEq) rNe:=by
 intro pins s σ H x y v u Q I rx ry h
 obtain⟨hs,q⟩:=h
 cases x with
 |non=>
   cases rx
   cases y with
   |non=>cases ry;exact PySem.EqNone.ne_none_none (fin_bl I q (by simp))
   |bl j=>cases ry;exact PySem.EqNone.ne_none_bool (fin_bl I q (by simp))
   |int j=>obtain⟨t',rfl⟩:=ry;exact PySem.EqNone.ne_none_int (fin_bl I q (by simp))
   |str j=>obtain⟨t',rfl⟩:=ry;exact PySem.EqNone.ne_none_str (fin_bl I q (by simp))
   |_=>exact absurd (show false=true from hs) Bool.false_ne_true
 |bl i=>
   cases rx
   cases y with
   |non=>cases ry;exact PySem.EqNone.ne_bool_none (fin_bl I q (by simp))
   |bl j=>cases ry;exact ne_bool (fin_bl I q (congrArg not dec_bl))
   |str j=>obtain⟨t',rfl⟩:=ry;exact PySem.EqMixed.ne_bool_str (fin_bl I q (by simp))
   |_=>exact absurd (show false=true from hs) Bool.false_ne_true
 |int i=>
   obtain⟨t,rfl⟩:=rx
   cases y with
   |non=>cases ry;exact PySem.EqNone.ne_int_none (fin_bl I q (by simp))
   |int j=>obtain⟨t',rfl⟩:=ry;exact ne_int (fin_bl I q (congrArg not dec_int))
   |str j=>obtain⟨t',rfl⟩:=ry;exact PySem.EqMixed.ne_int_str (fin_bl I q (by simp))
   |_=>exact absurd (show false=true from hs) Bool.false_ne_true
 |str i=>
   obtain⟨t,rfl⟩:=rx
   cases y with
   |non=>cases ry;exact PySem.EqNone.ne_str_none (fin_bl I q (by simp))
   |bl j=>cases ry;exact PySem.EqMixed.ne_str_bool (fin_bl I q (by simp))
   |int j=>obtain⟨t',rfl⟩:=ry;exact PySem.EqMixed.ne_str_int (fin_bl I q (by simp))
   |str j=>obtain⟨t',rfl⟩:=ry;exact ne_str (fin_bl I q (congrArg not dec_str))
   |_=>exact absurd (show false=true from hs) Bool.false_ne_true
 |byt i=>
   obtain⟨t,rfl⟩:=rx
   cases y with
   |byt j=>obtain⟨t',rfl⟩:=ry;exact PySem.W.ne_bytes (fin_bl I q (congrArg not dec_byt))
   |_=>exact absurd (show false=true from hs) Bool.false_ne_true
 |_=>cases y<;>exact absurd (show false=true from hs) Bool.false_ne_true
theorem op_lt:OpR X (compareOp .Lt) (rI0 fun i j=>.bl (decide (i<j))):=opB0 fun _ _ _ _ _ _ _ q=>lt_int q
theorem op_le:OpR X (compareOp .LtE) (rI0 fun i j=>.bl (decide (i≤j))):=opB0 fun _ _ _ _ _ _ _ q=>le_int q
theorem op_gt:OpR X (compareOp .Gt) (rI0 fun i j=>.bl (decide (j<i))):=opB0 fun _ _ _ _ _ _ _ q=>gt_int q
theorem op_ge:OpR X (compareOp .GtE) (rI0 fun i j=>.bl (decide (j≤i))):=opB0 fun _ _ _ _ _ _ _ q=>ge_int q
theorem OpR.or{f:Value->Value->Sem Value}{r r':R2}(h:OpR X f r)(h':OpR X f r'):OpR X f (fun x y H Q=>r x y H Q∨r' x y H Q):=by
 intro pins s σ H x y v u Q I rx ry q
 rcases q with q | q
 ·exact h pins s σ H x y v u Q I rx ry q
 ·exact h' pins s σ H x y v u Q I rx ry q
theorem nomark(b:Expr){op:CmpOp}(h:op≠.In:=by decide)(h2:op≠.NotIn:=by decide):behindInMarks op b=false:=by
 have e1:(op==CmpOp.In)=false:=by cases op<;>first | rfl | exact absurd rfl h
 have e2:(op==CmpOp.NotIn)=false:=by cases op<;>first | rfl | exact absurd rfl h2
 cases b<;>simp[behindInMarks,e1,e2]
theorem pe_cmpR{op:CmpOp}{r:R2}(ho:OpR X (compareOp op) r)(ha:PE X a ta)(hb:PE X b tb)(hm:behindInMarks op b=false):PE X (.Compare a [op] [b] pos) (tOp r ta tb):=by
 intro pins s σ H Q I h
 exact wpAny_Compare1 (binT ha hb I h fun v u s2 x y H2 I2 rx ry q=>ho pins s2 σ H2 x y v u Q I2 rx ry q) hm
def tTest(t:TE):TT:=fun σ H Q=>t σ H fun x H'=>∃k,x=.bl k∧Q k H'
theorem pt_cmpR{op:CmpOp}{r:R2}(ho:OpR X (compareOp op) r)(ha:PE X a ta)(hb:PE X b tb)(hm:behindInMarks op b=false):PT X (.Compare a [op] [b] pos) (tTest (tOp r ta tb)):=by
 intro pins s σ H Q I h
 refine wpAny_isTrue_Compare1 (thn (ha pins s σ H _ I h) fun v s1 ⟨x,H1,I1,r1,q1⟩=>thn (hb pins s1 σ H1 _ I1 q1) fun u s2 ⟨y,H2,I2,r2,q2⟩=>
  thn (ho pins s2 σ H2 x y v u _ I2 r1 r2 q2) fun c s3 ⟨z,H3,I3,r3,k,e,q3⟩=>?_) hm
 subst e
 cases r3
 exact wpAny_truthy_bool ⟨H3,I3,q3⟩
def tChain(r r':R2)(ta tb tc:TE):TE:=fun σ H Q=>ta σ H fun x H1=>tb σ H1 fun y H2=>r x y H2 fun z H3=>∃k,z=.bl k ∧
 (if k=true then tc σ H3 fun w' H4=>r' y w' H4 Q else Q (.bl false) H3)
theorem pt_chain {op op':CmpOp}{r r':R2} (ho:OpR X (compareOp op) r) (ho':OpR X (compareOp op') r') (ha:PE X a ta) (hb:PE X b tb) (hc:PE X c tc)
  (hm:lastMarks [op,op'] [b,c]=false:=by with_unfolding_all rfl):PT X (.Compare a [op,op'] [b,c] pos) (tTest (tChain r r' ta tb tc)):=by
 intro pins s σ H Q I h
 refine isTrue_chain (thn (ha pins s σ H _ I h) fun v s1 ⟨x,H1,I1,r1,q1⟩=>test_link (thn (hb pins s1 σ H1 _ I1 q1) fun u s2 ⟨y,H2,I2,r2,q2⟩=>
  thn (ho pins s2 σ H2 x y v u _ I2 r1 r2 q2) fun d s3 ⟨z,H3,I3,r3,k,e,q3⟩=>?_)) hm
 subst e
 cases r3
 refine wpAny_truthy_bool ?_
 cases k with
 |false=>
   obtain⟨k',e',q'⟩:=q3
   cases e'
   exact ite_ff ⟨H3,I3,q'⟩
 |true=>
   refine ite_tt (test_last (thn (hc pins s3 σ H3 _ I3 q3) fun w' s4 ⟨z',H4,I4,r4,q4⟩=>thn (ho' pins s4 σ H4 y z' u w' _ I4 r2 r4 q4) fun d' s5 ⟨z2,H5,I5,r5,k2,e2,q5⟩=>?_))
   subst e2
   cases r5
   exact wpAny_truthy_bool ⟨H5,I5,q5⟩
def TruV(K:PySem.W.Frag)(x:V)(H:Hp)(k:Bool):Prop:=
 match x with
 |.non=>k=false
 |.bl b=>k=b
 |.int i=>k=(i != 0)
 |.str y=>y.length≤sizeLine∧k=((y.length:Int) != 0)
 |.byt y=>y.size≤sizeLine∧k=((y.size:Int) != 0)
 |.ref p=>(∃xs,SqL K H p xs∧k=!xs.isEmpty)∨(∃xs,SqT K H p xs∧k=!xs.isEmpty)∨∃kvs,H p=some (.dK kvs)∧k=!kvs.isEmpty
 |_=>False
theorem isEmpty_kv{κ:Type}{kvs:List (κ×V)}{vs:List (κ×Value)}(r:KV kvs vs):(!vs.isEmpty)=!kvs.isEmpty:=by
 cases r<;>rfl
theorem isEmpty_of{xs:List V}{its:List Value}(r:Vals xs its):(!its.toArray.isEmpty)=!xs.isEmpty:=by
 cases r<;>simp
theorem line63:(sizeLine:Nat)<2^63:=by rw[sizeLine_eq];decide
theorem tru_ok:TruR X (fun x H Q=>∃ k,TruV X.K x H k∧Q k H):=by
 intro pins s σ H x v Q I rx h
 obtain⟨k,e,q⟩:=h
 have hl:=line63
 have hs:sizeLine=16777216:=sizeLine_eq
 cases x with
 |non=>
   cases rx
   have e':k=false:=e
   subst e'
   exact truthy_none ⟨H,I,q⟩
 |bl b=>
   cases rx
   have e':k=b:=e
   subst e'
   exact wpAny_truthy_bool ⟨H,I,q⟩
 |int i=>
   obtain⟨t,rfl⟩:=rx
   have e':k=(i != 0):=e
   subst e'
   exact PySem.P.truthy_int ⟨H,I,q⟩
 |str y=>
   obtain⟨t,rfl⟩:=rx
   obtain⟨hy,e'⟩:y.length≤sizeLine∧k=((y.length:Int) != 0):=e
   subst e'
   exact PySem.P.truthy_str (by omega) ⟨H,I.tok _,q⟩
 |byt y=>
   obtain⟨t,rfl⟩:=rx
   obtain⟨hy,e'⟩:y.size≤sizeLine∧k=((y.size:Int) != 0):=e
   subst e'
   exact PySem.W.truthy_bytes (by omega) ⟨H,I.tok _,q⟩
 | ref p=>
   cases rx
   have e':(∃xs,SqL X.K H p xs∧k=!xs.isEmpty)∨(∃xs,SqT X.K H p xs∧k=!xs.isEmpty)∨∃kvs,H p=some (.dK kvs)∧k=!kvs.isEmpty:=e
   rcases e' with ⟨xs,hx,e'⟩ | ⟨xs,hx,e'⟩ | ⟨kvs,hx,e'⟩
   ·subst e'
    obtain⟨its,r,pl,hz⟩:=I.list hx
    have hlen:=r.length
    exact wpAny_truthy_list pl.isList (by simp only[List.size_toArray];omega) ⟨H,I.tok _,by rw[isEmpty_of r];exact q⟩
   ·subst e'
    obtain⟨its,r,pl,hz⟩:=I.tuple hx
    have hlen:=r.length
    exact truthy_tuple pl (by simp only[List.size_toArray];omega) ⟨H,I.tok _,by rw[isEmpty_of r];exact q⟩
   ·subst e'
    obtain⟨hz,hS,vs,r,m⟩:kvs.length≤sizeLine∧(p==sysModules)=false∧∃vs,KV kvs vs∧s.heap.DictOf (mixKind X.prog X.w) p vs:=I.hok p _ hx
    have hlen:kvs.length=vs.length:=Paired.length r
    exact wpAny_truthy_dict hS m (by omega) ⟨H,I.tok _,by rw[isEmpty_kv r];exact q⟩
 |_=>exact (show False from e).elim
theorem pt_truth(ha:PE X a ta)(he:∀whole,isTrue a X.env whole=(do let v ←whole;standAt a.pos;holding [v] (truthy v))) :
  PT X a (fun σ H Q=>ta σ H fun x H'=>∃k,TruV X.K x H' k∧Q k H'):=by
 intro pins s σ H Q I h
 exact isTrue_plain (thn (ha pins s σ H _ I h) fun v s1 ⟨x,H1,I1,r1,q1⟩=>tru_ok pins s1 σ H1 x v Q I1 r1 q1) (he _)
theorem op_add_str:OpR X (binaryOp .Add) (fun x y H Q=>∃i j,x=.str i∧y=.str j∧i.length+j.length≤sizeLine∧Q (.str (i++j)) H):=by
 intro pins s σ H x y v u Q I rx ry h
 obtain⟨i,j,rfl,rfl,hz,q⟩:=h
 obtain⟨t,rfl⟩:=rx
 obtain⟨t',rfl⟩:=ry
 exact add_str (fun t' tk=>⟨.str (i++j),H,I.tok _,⟨_,rfl⟩,q⟩) hz
theorem vals1{x:V}{us:List Value}(r:Vals [x] us):∃u,us=[u]∧RelV x u:=by
 cases r with
 |cons r1 r2=>cases r2;exact⟨_,rfl,r1⟩
theorem vals2 {x y:V}{us:List Value} (r:Vals [x,y] us):∃ u w',us=[u,w']∧RelV x u∧RelV y w':=by
 cases r with
 |cons r1 r2=>
   cases r2 with
   |cons r3 r4=>cases r4;exact⟨_,_,rfl,r1,r3⟩
theorem call_max2(hc:X.calm=true):CallR X (.builtin "max") (fun xs H Q=>∃i j,xs=[.int i,.int j]∧Q (.int (if j > i then j else i)) H):=by
 intro pins s σ H xs us Q I r h
 obtain⟨i,j,rfl,q⟩:=h
 obtain⟨u,w',rfl,⟨t,rfl⟩,⟨t',rfl⟩⟩:=vals2 r
 refine max_two_ints (I.ok.hd hc) fun h' tk k=>⟨_,H,I.kept k,?_,q⟩
 by_cases hj:j > i
 ·rw[if_pos hj,if_pos hj];exact⟨_,rfl⟩
 ·rw[if_neg hj,if_neg hj];exact⟨_,rfl⟩
theorem call_min2(hc:X.calm=true):CallR X (.builtin "min") (fun xs H Q=>∃i j,xs=[.int i,.int j]∧Q (.int (if j<i then j else i)) H):=by
 intro pins s σ H xs us Q I r h
 obtain⟨i,j,rfl,q⟩:=h
 obtain⟨u,w',rfl,⟨t,rfl⟩,⟨t',rfl⟩⟩:=vals2 r
 refine min_two_ints (I.ok.hd hc) fun h' tk k=>⟨_,H,I.kept k,?_,q⟩
 by_cases hj:j<i
 ·rw[if_pos hj,if_pos hj];exact⟨_,rfl⟩
 ·rw[if_neg hj,if_neg hj];exact⟨_,rfl⟩
end
open PySem PySem.Spec PyProof.Rows
structure ObjM(h:Heap)(x dx C:Addr)(mA:Str->Option Value):Prop where
 obj:h.get? x=some (PySem.W.instObj C dx)
 ns:h.Ns1 dx mA
 ne:dx≠x
theorem lookIn_ns {h:Heap}{dx:Addr}{mA:Str->Option Value} (n:h.Ns1 dx mA):∃ od,h.get? dx=some od∧∀ name,PySem.W.lookIn name od=some (mA name):=by
 obtain⟨o,es,ep,ho,hd,hk,_,hm⟩:=n
 refine⟨o,ho,fun name=>?_⟩
 have e:=hm name
 unfold nsFind findBy at e
 rw[←Array.find?_toList] at e
 unfold PySem.W.lookIn
 rw[hd]
 dsimp only
 split
 ·rename_i y q
  rw[q] at e
  exact congrArg some e
 ·rename_i q
  rw[q] at e
  have a:es.toList.any (·.refKey)=false:=by
   rw[List.any_eq_false]
   intro y hy
   obtain⟨z,t,hkey⟩:=hk y (Array.mem_toList_iff.mp hy)
   simp[DictEntry.refKey,hkey]
  have a':¬ es.toList.any (·.refKey)=true:=by rw[a];exact Bool.false_ne_true
  rw[if_neg a']
  exact congrArg some e
theorem ObjM.look{h:Heap}{x dx C:Addr}{mA:Str->Option Value}(I:ObjM h x dx C mA):∃od,PySem.W.InstAt h x (PySem.W.instObj C dx) C (some od)∧∀name,PySem.W.lookIn name od=some (mA name):=
 let ⟨od,ho,hl⟩:=lookIn_ns I.ns
 ⟨od,⟨I.obj,rfl,rfl,ho⟩,hl⟩
section
variable{prog:Program}{w:World}{A:Around}{E:Value->Shared->Prop}{s:Shared}{K:PySem.W.Frag}{x dx C f:Addr}{mA:Str->Option Value}{name:Str}{v:Value}
theorem get_map{expr:Bool}{Q:Value->Shared->Prop}(X:K.In s.heap)(I:ObjM s.heap x dx C mA)(hg:PySem.W.plainGet K C name=true)(hh:PySem.W.hasDictIn K C=true)
  (ha:PySem.W.findIn K (.ref C) name=some none) (hv:mA name=some v) (hv':PySem.W.handedIn v=true) (h:Q v { s with toks:=s.toks+1 }) :
  wpAny (model prog w) A (getAttr (.ref x) name expr) Q E s:=by
 obtain⟨od,J,hl⟩:=I.look
 exact PySem.W.get_value X J (PySem.W.plainGet_of hg).1 (PySem.W.findObj_own hh ha rfl (by rw[hl,hv])) hv' h
theorem set_map{ns:List Str}{Q:Unit->Shared->Prop}(X:K.In s.heap)(I:ObjM s.heap x dx C mA)
  (hs:PySem.W.findIn K (.ref C) "__setattr__"=some (some (.builtin "object.__setattr__"))) (hp:PySem.W.plainOver K C=true) (ht:PySem.W.takerIn K C name=some none) (hh:PySem.W.hasDictIn K C=true)
  (hw:PySem.Within mA ns) (hsz:ns.length≤sizeLine)
  (h:∀h',ObjM h' x dx C (fun y=>if y=name then some v else mA y)->Heap.SameBut dx s.heap h'->Q () { s with heap:=h',toks:=s.toks+2 }) :
  wpAny (model prog w) A (setAttr (.ref x) name v) Q E s:=by
 obtain⟨od,J,hl⟩:=I.look
 refine PySem.W.set_plain X J hs (PySem.W.osa_open (s:={ s with toks:=s.toks+1 }) (r:=none) X J hp ht fun b=>?_)
 obtain⟨cd,hc,hd'⟩:=PySem.W.any_some hh
 have hx:s.heap.get? x=some ⟨.ref C,some dx,.plain,#[]⟩:=I.obj
 refine wpAny_bind (wpAny_pure (wpAny_bind (wpAny_bind (wpAny_loadPart hx (wpAny_bind (PySem.W.Looks.here (s:={ s with toks:=s.toks+1 }) (PySem.W.looks_clsIn X hc) ?_))))))
 rw[hd']
 refine wpAny_pure (a:=some dx) (wpAny_bind (wpAny_pure (wpAny_bind ?_)))
 refine wpAny_nsSet1 (s:={ s with toks:=s.toks+1 }) I.ns fun h' hn2 hs2=>?_
 obtain⟨oD,esD,epD,hoD,hdD,hcD⟩:=hn2.count (PySem.Within.cons name v hw)
 refine wpAny_bind (wpAny_lookBehind hoD (by rw[hdD];exact pastItsLine_dict (Nat.le_trans hcD (by rw[List.length_cons];omega))) ?_)
 exact wpAny_pure (h _ ⟨(hs2.2 _ (Ne.symm I.ne)).trans I.obj,hn2,I.ne⟩ hs2)
theorem make_map {R:Result->Shared->Prop}{vs:List Value}{kw:List (Str×Value)} (X:K.In s.heap) (hm:PySem.W.makesIn K C=true)
  (hi:PySem.W.findIn K (.ref C) "__init__"=some (some (.ref f))) (hf:PySem.W.typeIn K (.ref f)=some (.type "function"))
  (h:codeAny (model prog w) (A.under (.builtin "type.__call__" ⟨.ref C::vs,kw⟩)) (.call (.ref f) ⟨.ref (s.heap.objs.size+1)::vs,kw⟩) (PySem.W.InitBack (s.heap.objs.size+1) R)
    { s with heap:=(s.heap.push PySem.W.emptyDict).push (PySem.W.instObj C s.heap.objs.size) }) :
  codeAny (model prog w) A (.call (.ref C) ⟨vs,kw⟩) R s:=by
 obtain⟨hh,g,d,t,os⟩:=s
 exact PySem.W.make_core (PySem.W.makes_of X hm) (PySem.W.looks_findIn X hi) (fun self=>PySem.W.bind_fn X self hf) (.inl rfl) h
end
def putF(f:Str)(v:V):List (Str×V)->List (Str×V)
 |[]=>[(f,v)]
 |(g,x)::r=>if g=f then (g,v)::r else (g,x)::putF f v r
theorem lookup_putF (f g:Str) (v:V):∀ fs:List (Str×V),(putF f v fs).lookup g=if g=f then some v else fs.lookup g
 | []=>by
   show List.lookup g [(f,v)]=_
   by_cases h:g=f
   ·have hb:(g==f)=true:=beq_iff_eq.mpr h
    simp only[List.lookup,hb,if_pos h]
   ·have hb:(g==f)=false:=beq_eq_false_iff_ne.mpr h
    simp only[List.lookup,hb,if_neg h]
 | (k,x)::r=>by
   have ih:=lookup_putF f g v r
   rw[show putF f v ((k,x)::r)=(if k=f then (k,v)::r else (k,x)::putF f v r) from rfl]
   by_cases hk:k=f
   ·rw[if_pos hk]
    by_cases h:g=k
    ·have hb:(g==k)=true:=beq_iff_eq.mpr h
     simp only[List.lookup,hb,if_pos (h.trans hk)]
    ·have hb:(g==k)=false:=beq_eq_false_iff_ne.mpr h
     simp only[List.lookup,hb,if_neg (fun e:g=f=>h (e.trans hk.symm))]
   ·rw[if_neg hk]
    by_cases h:g=k
    ·have hb:(g==k)=true:=beq_iff_eq.mpr h
     simp only[List.lookup,hb,if_neg (fun e:g=f=>hk (h.symm.trans e))]
    ·have hb:(g==k)=false:=beq_eq_false_iff_ne.mpr h
     simp only[List.lookup,hb]
     exact ih
theorem keys_putF (f:Str) (v:V):∀ fs:List (Str×V),f∈(putF f v fs).map (·.1)∧∀ g,g∈fs.map (·.1)->g∈(putF f v fs).map (·.1)
 |[]=>⟨by simp[putF],fun g h=>by simp at h⟩
 | (k,x)::r=>by
   obtain⟨i1,i2⟩:=keys_putF f v r
   rw[show putF f v ((k,x)::r)=(if k=f then (k,v)::r else (k,x)::putF f v r) from rfl]
   by_cases hk:k=f
   ·rw[if_pos hk]
    subst hk
    exact⟨by simp,fun g h=>by simpa using h⟩
   ·rw[if_neg hk]
    refine⟨?_,fun g h=>?_⟩
    ·rw[List.map_cons]
     exact List.mem_cons_of_mem _ i1
    ·rw[List.map_cons] at h ⊢
     rcases List.mem_cons.mp h with e | e
     ·exact List.mem_cons.mpr (.inl e)
     ·exact List.mem_cons_of_mem _ (i2 g e)
theorem length_putF (f:Str) (v:V):∀ fs:List (Str×V),(putF f v fs).length≤fs.length + 1
 |[]=>by simp[putF]
 |(k,x)::r=>by
   have ih:=length_putF f v r
   rw[show putF f v ((k,x)::r)=(if k=f then (k,v)::r else (k,x)::putF f v r) from rfl]
   by_cases hk:k=f
   ·rw[if_pos hk,List.length_cons,List.length_cons];omega
   ·rw[if_neg hk,List.length_cons,List.length_cons];omega
theorem RelO.some_of{v:V}{o:Option Value}(r:RelO (some v) o):∃u,o=some u∧RelV v u:=by
 cases o with
 |none=>exact (show False from r).elim
 |some u=>exact⟨u,rfl,r⟩
theorem handed_of{v:V}{u:Value}(r:RelV v u):PySem.W.handedIn u=true:=by
 cases v with
 |non=>cases (show u=Value.none from r);rfl
 |bl b=>cases (show u=Value.bool b from r);rfl
 |int i=>obtain⟨t,e⟩:=(show ∃t,u=Value.int i t from r);cases e;rfl
 |str x=>obtain⟨t,e⟩:=(show ∃t,u=Value.str x t from r);cases e;rfl
 |byt b=>obtain⟨t,e⟩:=(show ∃t,u=Value.bytes b t from r);cases e;rfl
 |flt b=>obtain⟨t,e⟩:=(show ∃t,u=Value.float b t from r);cases e;rfl
 |ref a=>cases (show u=Value.ref a from r);rfl
 |ty n=>cases (show u=Value.type n from r);rfl
section
variable{P:Program}{w:World}{H H':Hp}{h h':Heap}{a C dx:Addr}{fs fs':List (Str×V)}
theorem ins_get(hok:HOk P w H h)(e:H a=some (.ins C dx fs)):∃mA,ObjM h a dx C mA∧(∀f,RelO (fs.lookup f) (mA f))∧PySem.Within mA (fs.map (·.1))∧fs.length≤1000∧H dx=some (.own a):=by
 obtain⟨d,z,ne,ob,mA,n,r,q⟩:=(show ObjOk P w H h a (.ins C dx fs) from hok a _ e)
 exact⟨mA,⟨ob,n,ne⟩,r,q,z,d⟩
end
structure Cls(K:PySem.W.Frag)(C:Addr):Prop where
 pg:PySem.W.plainGet K C Str.empty=true
 hd:PySem.W.hasDictIn K C=true
 po:PySem.W.plainOver K C=true
 sa:PySem.W.findIn K (.ref C) "__setattr__"=some (some (.builtin "object.__setattr__"))
theorem Cls.get{K:PySem.W.Frag}{C:Addr}(c:Cls K C)(f:Str):PySem.W.plainGet K C f=true:=c.pg
def NoAttr(K:PySem.W.Frag)(C:Addr)(f:Str):Prop:=PySem.W.findIn K (.ref C) f=some none
theorem NoAttr.taker{K:PySem.W.Frag}{C:Addr}{f:Str}(n:NoAttr K C f):PySem.W.takerIn K C f=some none:=by
 unfold PySem.W.takerIn
 rw[show PySem.W.findIn K (.ref C) f=some none from n]
 rfl
section
variable{X:Cx}{pins:List (Addr×Obj)}{σ:St}{H:Hp}{s:Shared}{a C dx:Addr}{fs:List (Str×V)}{f:Str}{v:V}{A:Around}{E:Value->Shared->Prop}
theorem getattr_ok{b:Bool}{Q:Value->Shared->Prop}(I:Inv X pins σ H s)(e:H a=some (.ins C dx fs))(c:Cls X.K C)(n:NoAttr X.K C f)(l:fs.lookup f=some v)
  (h:∀u s',Inv X pins σ H s'->RelV v u->Q u s'):wpAny (model X.prog X.w) A (getAttr (.ref a) f b) Q E s:=by
 obtain⟨mA,O,r,_,_,_⟩:=ins_get I.hok e
 obtain⟨u,hu,ru⟩:=RelO.some_of (v:=v) (o:=mA f) (by rw[←l];exact r f)
 exact get_map I.kIn O (c.get f) c.hd n hu (handed_of ru) (h u _ (I.tok _) ru)
theorem setattr_ok {y:V}{u:Value}{Q:Unit->Shared->Prop} (I:Inv X pins σ H s) (e:H a=some (.ins C dx fs)) (c:Cls X.K C) (n:NoAttr X.K C f) (hl:fs.length<1000) (ry:RelV y u)
  (h:∀s',Inv X pins σ (upd H a (.ins C dx (putF f y fs))) s'->Q () s'):wpAny (model X.prog X.w) A (setAttr (.ref a) f u) Q E s:=by
 obtain⟨mA,O,r,wi,_,ho⟩:=ins_get I.hok e
 have hz:(fs.map (·.1)).length≤sizeLine:=by rw[List.length_map,sizeLine_eq];omega
 refine set_map I.kIn O c.sa c.po n.taker c.hd wi hz fun h' O' sb=>h _ ?_
 have hd:∃o,h'.get? dx=some o:=let ⟨o,_,_,e',_⟩:=O'.ns;⟨o,e'⟩
 refine I.write (x:=a) (e:=dx) (by rw[e];exact True.intro) (.inr ho) (fun b q hb z=>(sb.2 b hb).trans z) hd ?_
 refine⟨by rw[upd_ne O.ne];exact ho,?_,O.ne,O'.obj,_,O'.ns,fun g=>?_,fun g hg=>?_⟩
 ·have:=length_putF f y fs;omega
 ·show RelO ((putF f y fs).lookup g) (if g=f then some u else mA g)
  rw[lookup_putF]
  by_cases q:g=f
  ·rw[if_pos q,if_pos q];exact ry
  ·rw[if_neg q,if_neg q];exact r g
 ·by_cases q:g=f
  ·rw[q];exact (keys_putF f y fs).1
  ·refine (keys_putF f y fs).2 g (wi g fun z=>hg ?_)
   show (if g=f then some u else mA g)=none
   rw[if_neg q];exact z
theorem Inv.made(I:Inv X pins σ H s):Inv X pins σ (upd (upd H s.heap.objs.size (.own (s.heap.objs.size+1))) (s.heap.objs.size+1) (.ins C s.heap.objs.size []))
  { s with heap:=(s.heap.push PySem.W.emptyDict).push (PySem.W.instObj C s.heap.objs.size) }:=by
 have e1:(s.heap.push PySem.W.emptyDict).get? s.heap.objs.size=some PySem.W.emptyDict:=Heap.get?_push_size s.heap rfl
 have e2:((s.heap.push PySem.W.emptyDict).push (PySem.W.instObj C s.heap.objs.size)).get? (s.heap.objs.size+1)=some (PySem.W.instObj C s.heap.objs.size):=by
  have:=Heap.get?_push_size (s.heap.push PySem.W.emptyDict) (o:=PySem.W.instObj C s.heap.objs.size) rfl
  rwa [Heap.size_push] at this
 have e3:(s.heap.push PySem.W.emptyDict).Ns s.heap.objs.size (fun _=>none):=⟨PySem.W.emptyDict,#[],_,e1,rfl,(fun e he=>absurd he (by simp)),fun _=>rfl⟩
 have I1:=I.laid (a:=s.heap.objs.size) (o:=.own (s.heap.objs.size+1)) (h':=s.heap.push PySem.W.emptyDict) (t':=s.toks) (fun b u q=>Heap.get?_push_of_some _ q) (Nat.le_refl _) ⟨_,e1⟩
 refine I1.laid (a:=s.heap.objs.size+1) (o:=.ins C s.heap.objs.size []) (t':=s.toks) (fun b u q=>Heap.get?_push_of_some _ q) (Nat.le_of_eq (Heap.size_push _ _)) ?_
 have ne:s.heap.objs.size≠s.heap.objs.size+1:=Nat.ne_of_lt (Nat.lt_succ_self _)
 refine⟨by rw[upd_ne ne,upd_same],Nat.zero_le _,ne,e2,fun _=>none,(Heap.Ns1.of_empty e3).at fun o q=>Heap.get?_push_of_some _ q,fun _=>True.intro,fun y hy=>absurd rfl hy⟩
theorem attr_of{prog:Program}{w:World}{env:Env}{e:Expr}{f:Str}{pos:Pos}{s:Shared}{Q:Value->Shared->Prop}(hb:attributeBase e f env (eval e env)=eval e env)
  (h:wpAny (model prog w) A (eval e env) (fun o s₁=>wpAny (model prog w) A (getAttr o f true) Q E s₁) E s):wpAny (model prog w) A (eval (.Attribute e f pos) env) Q E s:=
 Attribute_any_ h (by rw[arm_eval_Attribute,hb])
end
def tFld(K:PySem.W.Frag)(ta:TE)(f:Str):TE:=fun σ H Q=>ta σ H fun x H1=>∃a C dx fs v,x=.ref a∧H1 a=some (.ins C dx fs)∧Cls K C∧NoAttr K C f∧fs.lookup f=some v∧Q v H1
def sFld(K:PySem.W.Frag)(ta tv:TE)(f:Str):TS:=fun D σ H=>tv σ H fun y H1=>ta σ H1 fun x H2=>∃a C dx fs,x=.ref a∧H2 a=some (.ins C dx fs)∧Cls K C∧NoAttr K C f∧fs.length<1000 ∧
 D.nx σ (upd H2 a (.ins C dx (putF f y fs)))
section
variable{X:Cx}{o e value:Expr}{f:Str}{pos pos' tpos:Pos}{ta tv:TE}
theorem pe_fld(he:PE X e ta)(hb:attributeBase e f X.env (eval e X.env)=eval e X.env):PE X (.Attribute e f pos) (tFld X.K ta f):=by
 intro pins s σ H Q I h
 refine attr_of hb (thn (he pins s σ H _ I h) fun u s1 ⟨x,H1,I1,rx,a,C,dx,fs,v,ex,ea,c,n,l,q⟩=>?_)
 subst ex
 obtain rfl:u=Value.ref a:=rx
 exact getattr_ok I1 ea c n l fun u' s2 I2 ru=>⟨v,H1,I2,ru,q⟩
theorem ps_fld(ha:PE X o ta)(hv:PE X value tv)(hs:swapsWith value (some (.Attribute o f pos')) pos.line X.env=pure false):PS X (.Assign [.Attribute o f pos'] value pos) (sFld X.K ta tv f):=by
 intro pins s σ H D I h
 refine plainObj_wpAny_Assign_Attribute (thn (hv pins s σ H _ I h) fun u s1 ⟨y,H1,I1,ry,q⟩=>thn (ha pins s1 σ H1 _ I1 q) fun ov s2 ⟨x,H2,I2,rx,a,C,dx,fs,ex,ea,c,n,l,q2⟩=>?_) hs
 subst ex
 obtain rfl:ov=Value.ref a:=rx
 exact setattr_ok I2 ea c n l ry fun s3 I3=>⟨σ,_,I3,q2⟩
end
section
variable{X:Cx}{pins:List (Addr×Obj)}{σ:St}{H:Hp}{s:Shared}{A:Around}{E:Value->Shared->Prop}{Q:Value->Shared->Prop}{c:Value}{b:Bool}
inductive TyOf (K:PySem.W.Frag) (H:Hp):V->Value->Prop where
 |non:TyOf K H .non (.type "NoneType")
 |bl (x:Bool):TyOf K H (.bl x) (.type "bool")
 |int (i:Int):TyOf K H (.int i) (.type "int")
 |str (x:Str):TyOf K H (.str x) (.type "str")
 |flt (x:UInt64):TyOf K H (.flt x) (.type "float")
 |lst {a:Addr}{xs:List V} (e:H a=some (.lst xs)):TyOf K H (.ref a) (.type "list")
 |frz {a:Addr}{o:Obj}{xs:List V} (e:H a=some (.frz o (.lst xs))):TyOf K H (.ref a) (.type "list")
 |tup {a:Addr}{xs:List V} (e:H a=some (.tup xs)):TyOf K H (.ref a) (.type "tuple")
 |dK {a:Addr}{kvs:List (Key×V)} (e:H a=some (.dK kvs)):TyOf K H (.ref a) (.type "dict")
 |dT {a:Addr}{kvs:List (List Key×V)} (e:H a=some (.dT kvs)):TyOf K H (.ref a) (.type "dict")
 |ins {a C dx:Addr}{fs:List (Str×V)} (e:H a=some (.ins C dx fs)) (cl:Cls K C) (ha:PySem.W.findIn K (.ref C) "__class__"=some (some (.builtin "object.__class__")))
   (hn:PySem.W.specialIn K (.builtin "object.__class__") "__get__"=some (some (.builtin "getset_descriptor.__get__"))) (htk:PySem.W.takesIn K (.builtin "object.__class__")=some true)
   (hm:PySem.W.mroIn K C (.type "object")=some true):TyOf K H (.ref a) (.ref C)
theorem isinst_ok {x:V}{u t:Value} (I:Inv X pins σ H s) (rx:RelV x u) (ty:TyOf X.K H x t) (e:PySem.W.kitOne X.K t c=some b) (h:∀ tk,Q (.bool b) { s with toks:=tk }) :
  wpAny (model X.prog X.w) A (call (.builtin "isinstance") [u,c]) Q E s:=by
 cases ty with
 |non=>cases (show u=Value.none from rx);exact PySem.W.kia_one PySem.W.kitx_none I.kIn True.intro e (fun z=>nomatch z) h
 |bl y=>cases (show u=Value.bool y from rx);exact PySem.W.kia_one PySem.W.kitx_bool I.kIn True.intro e (fun z=>nomatch z) h
 |int i=>obtain⟨t,q⟩:=(show ∃t,u=Value.int i t from rx);cases q;exact PySem.W.kia_one PySem.W.kitx_int I.kIn True.intro e (fun z=>nomatch z) h
 |str y=>obtain⟨t,q⟩:=(show ∃t,u=Value.str y t from rx);cases q;exact PySem.W.kia_one PySem.W.kitx_str I.kIn True.intro e (fun z=>nomatch z) h
 |flt y=>obtain⟨t,q⟩:=(show ∃t,u=Value.float y t from rx);cases q;exact PySem.W.kia_one PySem.W.kitx_float I.kIn True.intro e (fun z=>nomatch z) h
 | @lst a xs ea=>
   cases (show u=Value.ref a from rx)
   obtain⟨_,_,n,_,h1⟩:=(show ObjOk X.prog X.w H s.heap a (.lst xs) from I.hok a _ ea)
   exact PySem.W.kia_one PySem.W.kitx_list I.kIn ⟨_,h1,rfl⟩ e (fun z=>nomatch z) h
 | @frz a ob xs ea=>
   cases (show u=Value.ref a from rx)
   obtain⟨_,_,_,n,_,h1⟩:=(show ObjOk X.prog X.w H s.heap a (.frz ob (.lst xs)) from I.hok a _ ea)
   exact PySem.W.kia_one PySem.W.kitx_list I.kIn ⟨_,h1,rfl⟩ e (fun z=>nomatch z) h
 | @tup a xs ea=>
   cases (show u=Value.ref a from rx)
   obtain⟨_,_,_,p⟩:=(show ObjOk X.prog X.w H s.heap a (.tup xs) from I.hok a _ ea)
   obtain⟨o,h1,h2,_⟩:=p
   exact PySem.W.kia_one PySem.W.kitx_tuple I.kIn ⟨o,h1,h2⟩ e (fun z=>nomatch z) h
 | @dK a kvs ea=>
   cases (show u=Value.ref a from rx)
   obtain⟨_,_,vs,_,p⟩:=(show ObjOk X.prog X.w H s.heap a (.dK kvs) from I.hok a _ ea)
   obtain⟨o,es,ep,h1,h2,_⟩:=p
   exact PySem.W.kia_one PySem.W.kitx_dict I.kIn ⟨o,h1,h2.1⟩ e (fun z=>nomatch z) h
 | @dT a kvs ea=>
   cases (show u=Value.ref a from rx)
   obtain⟨_,_,xs,_,o,es,ep,h1,h2,_⟩:=(show ObjOk X.prog X.w H s.heap a (.dT kvs) from I.hok a _ ea)
   exact PySem.W.kia_one PySem.W.kitx_dict I.kIn ⟨o,h1,h2.1⟩ e (fun z=>nomatch z) h
 | @ins a C dx fs ea cl ha hn htk hm=>
   cases (show u=Value.ref a from rx)
   obtain⟨mA,O,_⟩:=ins_get I.hok ea
   obtain⟨od,J,_⟩:=O.look
   exact PySem.W.kia_one (PySem.W.kitx_own (cl.get _) cl.hd ha hn htk hm) I.kIn J e (fun z=>nomatch z) h
end
open PySem PySem.Spec PyProof.Rows
structure Room(k:Nat)(A:Around):Prop where
 hd:A.handled=none
 dp:A.depth+3*k+5<recursionLimit
 un:A.units+16*k+200<cLine
 gd:A.guards=some []
theorem Room.mono{j k:Nat}{A:Around}(r:Room k A)(h:j≤k):Room j A:=⟨r.hd,by have:=r.dp;omega,by have:=r.un;omega,r.gd⟩
theorem Room.deeper{k:Nat}{A:Around}(r:Room (k+1) A)(env:Env):Room k (A.deeper env):=
 ⟨r.hd,by have:=r.dp;show A.depth+1+3*k+5<_;omega,by have:=r.un;show A.units+3+16*k+200<_;omega,r.gd⟩
theorem Room.in1{k:Nat}{A:Around}(r:Room (k+1) A):Room k A.in1:=
 ⟨r.hd,by have:=r.dp;show A.depth+3*k+5<_;omega,by have:=r.un;show A.units+1+16*k+200<_;omega,r.gd⟩
theorem make_depth{A:Around}{C:Addr}{us:List Value}{kw:List (Str×Value)}:(A.under (.builtin "type.__call__" ⟨.ref C::us,kw⟩)).depth=A.depth+1:=by
 first | rfl | simp[Around.under,Code.weight,Code.isCreation,Code.isGuard,Code.isCaller,Code.frames,Code.isFrame,guardIds]
theorem make_units{A:Around}{C:Addr}{us:List Value}{kw:List (Str×Value)}:(A.under (.builtin "type.__call__" ⟨.ref C::us,kw⟩)).units=A.units+1:=by
 first | rfl | simp[Around.under,Code.cUnits,Code.frames,Code.isFrame]
theorem uc{A:Around}{C:Addr}{us:List Value}{kw:List (Str×Value)}:(A.under (.builtin "type.__call__" ⟨.ref C::us,kw⟩)).guards=A.guards:=by
 simp[Around.under,Code.guards,Code.isGuard,guardIds,pushGuards]
theorem Room.make{k:Nat}{A:Around}(r:Room (k+1) A)(C:Addr)(us:List Value)(kw:List (Str×Value)):Room k (A.under (.builtin "type.__call__" ⟨.ref C::us,kw⟩)):=
 ⟨r.hd,by have:=r.dp;rw[make_depth];omega,by have:=r.un;rw[make_units];omega,by first | (rw[uc];exact r.gd) | exact r.gd⟩
theorem Room.depth{k:Nat}{A:Around}(r:Room k A):A.depth<recursionLimit:=by have:=r.dp;omega
theorem Room.units{k:Nat}{A:Around}(r:Room k A):A.units+64<cLine:=by have:=r.un;omega
def tNil:TA:=fun _ H Q=>Q [] H
def tCons(ta:TE)(tr:TA):TA:=fun σ H Q=>ta σ H fun x H1=>tr σ H1 fun xs H2=>Q (x::xs) H2
section
variable{X:Cx}{e:Expr}{es:List Expr}{te:TE}{t:TA}{pos:Pos}
theorem pa_nil:PA X [] tNil:=fun _ _ _ _ H Q I h=>Calls.spliced_nil ⟨[],H,I,.nil,h⟩
theorem pa_cons(ha:PE X e te)(hr:PA X es t)(hs:starEach (e::es) X.env=(false,eval e X.env)::starEach es X.env:=by rfl):PA X (e::es) (tCons te t):=by
 intro pos pins s σ H Q I h
 rw[hs]
 show wpAny _ _ (spliced ((false,eval e X.env)::backTo pos (starEach es X.env))) _ _ s
 refine Calls.spliced_cons (thn (ha pins s σ H _ I h) fun u s1 ⟨x,H1,I1,r1,q1⟩=>?_)
 exact thn (hr pos pins s1 σ H1 _ I1 q1) fun us s2 ⟨xs,H2,I2,r2,q2⟩=>⟨x::xs,H2,I2,.cons r1 r2,q2⟩
def tTup(t:TA):TE:=fun σ H Q=>t σ H fun xs H1=>xs.length≤sizeLine∧∀p,H1 p=none->Q (.ref p) (upd H1 p (.tup xs))
def tLst(t:TA):TE:=fun σ H Q=>t σ H fun xs H1=>xs.length≤sizeLine∧∀p,H1 p=none->Q (.ref p) (upd H1 p (.lst xs))
theorem pe_tup{x1}(h:PA X es t):PE X (.Tuple es x1 pos) (tTup t):=by
 intro pins s σ H Q I hq
 refine wpAny_Tuple_spliced (thn (h pos pins s σ H _ I hq) fun us s1 ⟨xs,H1,I1,r,z,q⟩=>⟨by rw[←r.length];exact z,?_⟩)
 have hf:H1 s1.heap.objs.size=none:=I1.hok.fresh (Nat.le_refl _)
 refine⟨.ref s1.heap.objs.size,upd H1 s1.heap.objs.size (.tup xs),I1.laid (t':=s1.toks) (fun b u e=>Heap.get?_push_of_some _ e) (Nat.le_refl _) ?_,rfl,q _ hf⟩
 exact⟨z,us,r,⟨_,Heap.get?_push_size _ rfl,rfl,_,rfl⟩⟩
theorem pe_lst(h:PA X es t):PE X (.List es pos) (tLst t):=by
 intro pins s σ H Q I hq
 refine wpAny_List_spliced (thn (h pos pins s σ H _ I hq) fun us s1 ⟨xs,H1,I1,r,z,q⟩=>⟨by rw[←r.length];exact z,?_⟩)
 have hf:H1 s1.heap.objs.size=none:=I1.hok.fresh (Nat.le_refl _)
 refine⟨.ref s1.heap.objs.size,upd H1 s1.heap.objs.size (.lst xs),I1.laid (t':=s1.toks) (fun b u e=>Heap.get?_push_of_some _ e) (Nat.le_refl _) ?_,rfl,q _ hf⟩
 exact⟨z,us,0,r,Heap.get?_push_size _ rfl⟩
end
abbrev Sp:=List V->Hp->VK->XK->Prop
abbrev CXT:=List Env->Hp->Shared->XK->Value->Shared->Prop
structure Env0(P:Program)(w:World)(K:PySem.W.Frag)(mg:Str->Option Value)(base:Heap)(A:Around)(outer:List Env)(s:Shared)(H:Hp):Prop where
 frames:A.frames=some outer
 mod:Mod K mg base
 bs:∀b o,base.get? b=some o->s.heap.get? b=some o∧H b=none
 bsz:base.objs.size≤s.heap.objs.size
 funs:s.heap.FunFrames base outer
 frf:∀b∈frs outer,H b=none
 hok:HOk P w H s.heap
 bare:AllBare s.gens
def CE(outer:List Env)(P:Program)(w:World)(H:Hp)(s:Shared)(Q:VK)(u:Value)(s':Shared):Prop:=
 ∃v H',s'.os=s.os∧AllBare s'.gens∧Un (frs outer) [] H H' s.heap s'.heap∧HOk P w H' s'.heap∧RelV v u∧Q v H'
def CR(CX:CXT)(outer:List Env)(P:Program)(w:World)(H:Hp)(s:Shared)(Q:VK)(E:XK)(r:Result)(s':Shared):Prop:=
 match r with
 |.ok (.ret u)=>CE outer P w H s Q u s'
 |.ok _=>False
 |.error e=>CX outer H s E e s'
structure FnOk(P:Program)(w:World)(K:PySem.W.Frag)(mg:Str->Option Value)(base:Heap)(CX:CXT)(k:Nat)(f:Addr)(fd:FuncData)(ps:List Str)(sp:Sp):Prop where
 len:∀vs H Q E,sp vs H Q E->vs.length=ps.length
 run:∀(A:Around) (outer:List Env) (s:Shared) (H:Hp) (args:Args) (us:List Value) (vs:List V) (Q:VK) (E:XK),Room k A->Env0 P w K mg base A outer s H->BindsTo s fd args (ps.zip us)->Vals vs us->sp vs H Q E->
  codeAny (model P w) A (.call (.ref f) args) (CR CX outer P w H s Q E) s
theorem FnOk.mono{P:Program}{w:World}{K:PySem.W.Frag}{mg:Str->Option Value}{base:Heap}{CX:CXT}{j k:Nat}{f:Addr}{fd:FuncData}{ps:List Str}{sp:Sp}(F:FnOk P w K mg base CX j f fd ps sp)(h:j≤k) :
  FnOk P w K mg base CX k f fd ps sp:=⟨F.len,fun A outer s H args us vs Q E hr=>F.run A outer s H args us vs Q E (hr.mono h)⟩
theorem FnOk.imp{P:Program}{w:World}{K:PySem.W.Frag}{mg:Str->Option Value}{base:Heap}{CX:CXT}{k:Nat}{f:Addr}{fd:FuncData}{ps:List Str}{sp sp':Sp}(F:FnOk P w K mg base CX k f fd ps sp)
  (h:∀vs H Q E,sp' vs H Q E->sp vs H Q E):FnOk P w K mg base CX k f fd ps sp':=
 ⟨fun vs H Q E q=>F.len vs H Q E (h _ _ _ _ q),fun A outer s H args us vs Q E hr he hb hv hs=>F.run A outer s H args us vs Q E hr he hb hv (h _ _ _ _ hs)⟩
theorem Env0.make{P:Program}{w:World}{K:PySem.W.Frag}{mg:Str->Option Value}{base:Heap}{A:Around}{outer:List Env}{s:Shared}{H:Hp}(e:Env0 P w K mg base A outer s H)(C:Addr)(us:List Value)(kw:List (Str×Value)) :
  Env0 P w K mg base (A.under (.builtin "type.__call__" ⟨.ref C::us,kw⟩)) outer s H:=⟨by first | exact e.frames | (simpa[Around.under,Code.envs,Code.isFrame,pushEnvs] using e.frames),e.mod,e.bs,e.bsz,e.funs,e.frf,e.hok,e.bare⟩
section
variable{X:Cx}{pins:List (Addr×Obj)}{σ:St}{H:Hp}{s s':Shared}
theorem Inv.env0(I:Inv X pins σ H s):Env0 X.prog X.w X.K X.mg X.base X.A X.stack s H:=
 ⟨I.ok.frames,I.ok.mod,I.bs,Nat.le_trans I.ok.bsz I.sz,I.stack,I.stkFree,I.hok,I.bare⟩
theorem Inv.after{Q:VK}{u:Value}(I:Inv X pins σ H s)(h:CE X.stack X.prog X.w H s Q u s'):EP X pins σ Q u s':=by
 obtain⟨v,H',os,bare,un,hok,r,q⟩:=h
 obtain⟨hh,g,d,t,os'⟩:=s'
 obtain rfl:os'=s.os:=os
 exact⟨v,H',I.call (h':=hh) (g':=g) (d':=d) (t':=t) (ch:=[]) un hok bare (fun b z=>absurd z (by simp)),r,q⟩
end
def tCall(sp:Sp)(dvs:List V)(E:XK)(t:TA):TE:=fun σ H Q=>t σ H fun vs H1=>sp (vs++dvs) H1 Q E
def tMake(C:Addr)(sp:Sp)(dvs:List V)(E:XK)(t:TA):TE:=fun σ H Q=>t σ H fun vs H1=>∀x dx,H1 x=none->H1 dx=none->dx≠x->
 sp (.ref x::(vs++dvs)) (upd (upd H1 dx (.own x)) x (.ins C dx [])) (fun v H2=>v=.non∧Q (.ref x) H2) E
def Binds(K:PySem.W.Frag)(fd:FuncData)(ps:List Str)(ds:List Value):Prop:=
 ∀(s:Shared) (us:List Value),K.In s.heap->(us++ds).length=ps.length->BindsTo s fd ⟨us,[]⟩ (ps.zip (us++ds))
theorem Binds.all{K:PySem.W.Frag}{fd:FuncData}{ps:List Str}(h:∀us:List Value,us.length=ps.length->bindArgs fd ⟨us,[]⟩=pure (ps.zip us)):Binds K fd ps []:=fun s us _ hl=>by
 rw[List.append_nil] at hl ⊢
 exact .of_eq (h us hl)
def Passes(CX:CXT)(X:Cx)(E:XK):Prop:=∀(pins:List (Addr×Obj)) (σ:St) (H:Hp) (s:Shared) (e:Value) (s':Shared),Inv X pins σ H s->CX X.stack H s E e s'->X.xe e s'
section
variable{X:Cx}{CX:CXT}{k:Nat}{f C:Addr}{fd:FuncData}{ps:List Str}{sp:Sp}{dvs:List V}{ds:List Value}{E:XK}{x m:Str}{p pos apos:Pos}{e o:Expr}{es:List Expr}{ta:TE}{t:TA}
theorem run_fn {pins:List (Addr×Obj)}{σ:St}{H:Hp}{s:Shared}{Q:VK}{us:List Value}{vs:List V} (F:FnOk X.prog X.w X.K X.mg X.base CX k f fd ps sp) (hr:Room k X.A) (hb:Binds X.K fd ps ds) (hd:Vals dvs ds) (hx:Passes CX X E)
  (I:Inv X pins σ H s) (r:Vals vs us) (h:sp (vs++dvs) H Q E):wpAny (model X.prog X.w) X.A (call (.ref f) us) (EP X pins σ Q) X.xe s:=by
 have r2:Vals (vs++dvs) (us++ds):=r.append hd
 have hl:(us++ds).length=ps.length:=by rw[←r2.length];exact F.len _ _ _ _ h
 refine wpAny_call (codeAny_mono (F.run X.A X.stack s H ⟨us,[]⟩ (us++ds) (vs++dvs) Q E hr I.env0 (hb s us I.kIn hl) r2 h) fun r s' hq=>?_)
 cases r with
 |error e=>exact hx pins σ H s e s' I hq
 |ok fl=>
   cases fl with
   |ret u=>exact I.after hq
   |next=>exact False.elim hq
   |brk=>exact False.elim hq
   |cont=>exact False.elim hq
theorem pe_call(F:FnOk X.prog X.w X.K X.mg X.base CX k f fd ps sp)(hr:Room k X.A)(hg:Gl X x)(hm:X.mg x=some (.ref f))(hk:PySem.W.keepIn X.K (.ref f)=true)(hb:Binds X.K fd ps ds)(hd:Vals dvs ds)(hx:Passes CX X E)
  (ha:PA X (e::es) t) (hdb:(x==("__debug__":Str))=false:=by decide) (he:starEach (e::es) X.env=(false,eval e X.env)::starEach es X.env:=by rfl) (hpl:(backTo pos (starEach es X.env)).any (·.1)=false:=by rfl) :
  PE X (.Call (.Name x p) (e::es) [] pos) (tCall sp dvs E t):=by
 intro pins s σ H Q I h
 refine wpAny_Call_Name_kw (ld_glob I hg hm ?_ hdb)
 refine PySem.W.callWith_K (h₀:=X.base) I.ok.mod.kin hk (thn (ha pos pins s σ H _ I h) fun us s1 ⟨vs,H1,I1,r,q⟩=>⟨I1.kIn,?_⟩) he hpl
 exact run_fn F hr hb hd hx I1 r q
structure Mk(K:PySem.W.Frag)(C f:Addr):Prop where
 makes:PySem.W.makesIn K C=true
 init:PySem.W.findIn K (.ref C) "__init__"=some (some (.ref f))
 fn:PySem.W.isFn K (.ref f)=true
 kp:PySem.W.keepIn K (.ref C)=true
theorem run_make {pins:List (Addr×Obj)}{σ:St}{H:Hp}{s:Shared}{Q:VK}{us:List Value}{vs:List V} (M:Mk X.K C f) (F:FnOk X.prog X.w X.K X.mg X.base CX k f fd ps sp) (hr:Room (k + 1) X.A) (hb:Binds X.K fd ps ds) (hd:Vals dvs ds)
  (hx:Passes CX X E) (I:Inv X pins σ H s) (r:Vals vs us)
  (h:∀x dx,H x=none->H dx=none->dx≠x->sp (.ref x::(vs++dvs)) (upd (upd H dx (.own x)) x (.ins C dx [])) (fun v H2=>v=.non∧Q (.ref x) H2) E) :
  wpAny (model X.prog X.w) X.A (call (.ref C) us) (EP X pins σ Q) X.xe s:=by
 have hq:=h (s.heap.objs.size+1) s.heap.objs.size (I.hok.fresh (Nat.le_succ _)) (I.hok.fresh (Nat.le_refl _)) (Nat.ne_of_lt (Nat.lt_succ_self _))
 have I2:=Inv.made (C:=C) I
 have r2:Vals (V.ref (s.heap.objs.size+1)::(vs++dvs)) (Value.ref (s.heap.objs.size+1)::(us++ds)):=.cons rfl (r.append hd)
 have hl:(Value.ref (s.heap.objs.size+1)::us++ds).length=ps.length:=by
  have e:=r2.length
  rw[F.len _ _ _ _ hq] at e
  exact e.symm
 refine wpAny_call (make_map (f:=f) I.kIn M.makes M.init (beq_iff_eq.mp M.fn) (codeAny_mono (F.run _ X.stack _ _ ⟨Value.ref (s.heap.objs.size+1)::us,[]⟩ (Value.ref (s.heap.objs.size+1)::(us++ds)) _ _ E (hr.make C us [])
  (I2.env0.make C us []) (hb _ (Value.ref (s.heap.objs.size+1)::us) I2.kIn hl) r2 hq) fun r s' hq'=>?_))
 cases r with
 |error e=>exact hx pins σ _ _ e s' I2 hq'
 | ok fl=>
   cases fl with
   |ret u=>
     obtain⟨v,H',I3,rv,ev,q3⟩:=I2.after hq'
     subst ev
     exact⟨rv,⟨V.ref (s.heap.objs.size+1),H',I3,rfl,q3⟩⟩
   |next=>exact False.elim hq'
   |brk=>exact False.elim hq'
   |cont=>exact False.elim hq'
theorem pe_make(M:Mk X.K C f)(F:FnOk X.prog X.w X.K X.mg X.base CX k f fd ps sp)(hr:Room (k+1) X.A)(hg:Gl X x)(hm:X.mg x=some (.ref C))(hb:Binds X.K fd ps ds)(hd:Vals dvs ds)(hx:Passes CX X E)
  (ha:PA X (e::es) t) (hdb:(x==("__debug__":Str))=false:=by decide) (he:starEach (e::es) X.env=(false,eval e X.env)::starEach es X.env:=by rfl) (hpl:(backTo pos (starEach es X.env)).any (·.1)=false:=by rfl) :
  PE X (.Call (.Name x p) (e::es) [] pos) (tMake C sp dvs E t):=by
 intro pins s σ H Q I h
 refine wpAny_Call_Name_kw (ld_glob I hg hm ?_ hdb)
 refine PySem.W.callWith_K (h₀:=X.base) I.ok.mod.kin M.kp (thn (ha pos pins s σ H _ I h) fun us s1 ⟨vs,H1,I1,r,q⟩=>⟨I1.kIn,?_⟩) he hpl
 exact run_make M F hr hb hd hx I1 r q
end
structure FnScope(N P:List Str)(sc:Scope):Prop where
 kind:sc.kind=.function
 co:sc.isCoroutine=false
 gen:sc.isGenerator=false
 nd:N.Nodup
 pre:N.take P.length=P
 par:∀x∈P,sc.names.lookup x=some .local∨sc.names.lookup x=some .cell
 nofree:∀y∈sc.names,y.2≠.free
theorem bindL_out {kindOf:Str->Option NameKind}{x:Str}:∀ {binds:List (Str×Value)}{m:Str->Option Value},(∀ v,(x,v)∉binds)->bindL kindOf binds m x=m x
 |[],_,_=>rfl
 | (n,v)::r,m,h=>by
   unfold bindL
   rw[bindL_out fun w hw=>h w (List.mem_cons_of_mem _ hw)]
   split
   ·have:x≠n:=by rintro rfl;exact h v List.mem_cons_self
    simp[this]
   ·rfl
theorem bindC_out {kindOf:Str->Option NameKind}{x:Str}:∀ {binds:List (Str×Value)}{m:Str->Option Value},(∀ v,(x,v)∉binds)->bindC kindOf binds m x=m x
 |[],_,_=>rfl
 | (n,v)::r,m,h=>by
   unfold bindC
   rw[bindC_out fun w hw=>h w (List.mem_cons_of_mem _ hw)]
   split
   ·rfl
   ·have:x≠n:=by rintro rfl;exact h v List.mem_cons_self
    simp[this]
theorem bindL_get {kindOf:Str->Option NameKind}{x:Str}{v:Value}:∀ {P:List Str}{vs:List Value}{i:Nat}{m:Str->Option Value},P.Nodup->P[i]?=some x->vs[i]?=some v->kindOf x=some .local->
  bindL kindOf (P.zip vs) m x=some v
 |[],_,_,_,_,h,_,_=>by simp at h
 |_::_,[],_,_,_,_,h,_=>by simp at h
 |p::P,w::vs,0,m,nd,h1,h2,hk=>by
   simp at h1 h2;subst h1;subst h2
   show bindL kindOf ((p,w)::P.zip vs) m p=_
   unfold bindL
   rw[bindL_out fun v hv=>(List.nodup_cons.mp nd).1 (List.of_mem_zip hv).1,if_pos hk]
   simp
 |p::P,w::vs,i+1,m,nd,h1,h2,hk=>by
   show bindL kindOf ((p,w)::P.zip vs) m x=_
   unfold bindL
   exact bindL_get (i:=i) (List.nodup_cons.mp nd).2 (by simpa using h1) (by simpa using h2) hk
theorem bindC_get {kindOf:Str->Option NameKind}{x:Str}{v:Value}:∀ {P:List Str}{vs:List Value}{i:Nat}{m:Str->Option Value},P.Nodup->P[i]?=some x->vs[i]?=some v->kindOf x≠some .local->
  bindC kindOf (P.zip vs) m x=some v
 |[],_,_,_,_,h,_,_=>by simp at h
 |_::_,[],_,_,_,_,h,_=>by simp at h
 |p::P,w::vs,0,m,nd,h1,h2,hk=>by
   simp at h1 h2;subst h1;subst h2
   show bindC kindOf ((p,w)::P.zip vs) m p=_
   unfold bindC
   rw[bindC_out fun v hv=>(List.nodup_cons.mp nd).1 (List.of_mem_zip hv).1,if_neg hk]
   simp
 |p::P,w::vs,i+1,m,nd,h1,h2,hk=>by
   show bindC kindOf ((p,w)::P.zip vs) m x=_
   unfold bindC
   exact bindC_get (i:=i) (List.nodup_cons.mp nd).2 (by simpa using h1) (by simpa using h2) hk
def start(N:List Str)(vs:List V):St:=vs.map some++List.replicate (N.length-vs.length) none
def cxOf(CX:CXT)(P:Program)(w:World)(K:PySem.W.Frag)(mg:Str->Option Value)(base:Heap)(N:List Str)(qual:Str)(scope:Scope)(f:Addr)(cd:Value)(A:Around)(outer:List Env)(s:Shared)(H:Hp)(E:XK):Cx where
 prog:=P
 w:=w
 K:=K
 mg:=mg
 base:=base
 A:=A.deeper (envOfC qual scope s.heap.objs.size f cd)
 N:=N
 s₀:=s
 H₀:=H
 env:=envOfC qual scope s.heap.objs.size f cd
 outer:=outer
 stack:=envOfC qual scope s.heap.objs.size f cd::outer
 ex:=[]
 calm:=true
 fn:=fun _=>true
 pn:=[]
 xe:=fun e s'=>wpAny (model P w) (A.deeper (envOfC qual scope s.heap.objs.size f cd)) (leaving (envOfC qual scope s.heap.objs.size f cd) e) (fun _ s''=>CX outer H s E e s'') (fun e' s''=>CX outer H s E e' s'') s'
theorem cell_has{sc:Scope}{n:Nat}{x:Str}(h:sc.names.lookup x=some .cell):∃c,(cellsFrom n sc.names []).lookup x=some c:=by
 have q:=PySem.W.cellsFrom_some sc.names n [] (.inl h)
 exact Option.isSome_iff_exists.mp q
theorem inv_start {CX:CXT}{P:Program}{w:World}{K:PySem.W.Frag}{mg:Str->Option Value}{base:Heap}{N ps:List Str}{qual:Str}{scope:Scope}{f:Addr}{cd:Value}{A:Around}{outer:List Env}{s s1:Shared}{H:Hp}{E:XK}{us:List Value}{vs:List V}
  (S:FnScope N ps scope) (hd:A.handled=none) (e0:Env0 P w K mg base A outer s H) (hl:vs.length=ps.length) (r:Vals vs us)
  (x:InCallC s s.heap.objs.size (bindL (envOfC qual scope s.heap.objs.size f cd).kindOf (ps.zip us) fun _=>none) (cellsFrom (s.heap.objs.size+1) scope.names []) (bindC (envOfC qual scope s.heap.objs.size f cd).kindOf (ps.zip us) fun _=>none) s1) :
  Inv (cxOf CX P w K mg base N qual scope f cd A outer s H E) [] (start N vs) H s1:=by
 have hpl:ps.length≤N.length:=by have:=congrArg List.length S.pre;rw[List.length_take] at this;omega
 obtain⟨h1,tk,rfl,hk⟩:=x.done
 have noA:∀b:Addr,b∉(cxOf CX P w K mg base N qual scope f cd A outer s H E).ex:=fun b z=>absurd (show b∈([]:List Addr) from z) (by simp)
 refine⟨⟨e0.mod,S.kind,rfl,rfl,Nat.le_refl _,fun y z c h1 h2=>?_,fun y hy=>?_,fun y c _ h=>?_,fun _=>hd,Around.frames_deeper e0.frames,.inr ⟨rfl,rfl⟩,fun b z=>absurd z (noA b),e0.bs,e0.bsz,fun b _ _=>noA b,fun b z=>absurd z (noA b),e0.funs,e0.frf⟩,
  rfl,e0.bare,Un.kept hk,⟨_,x.toInCall.ns,fun i y v h1 h2 h3=>?_⟩,fun y c h=>⟨_,x.cell y c h⟩,e0.hok.fresh (Nat.le_refl _),fun y c h=>?_,fun p hp=>absurd (show p∈([]:List (Addr×Obj)) from hp) (by simp),e0.hok.kept hk,?_⟩
 ·exact name_of_addr x.apart (PySem.mem_of_lookup h1) (PySem.mem_of_lookup h2)
 ·have hy:scope.names.lookup y=some .cell∨scope.names.lookup y=some .free:=hy
  rcases hy with hy | hy
  ·exact cell_has hy
  ·exact absurd rfl (S.nofree _ (PySem.mem_of_lookup hy))
 ·exact Nat.le_of_lt (x.above y c (PySem.mem_of_lookup h))
 ·have hi:i<vs.length:=by
   unfold start at h2
   by_cases hi:i<vs.length
   ·exact hi
   ·rw[List.getElem?_append_right (by simpa using hi)] at h2
    rw[List.getElem?_replicate] at h2
    split at h2<;>cases h2
  have ha:vs[i]?=some v:=by
   unfold start at h2
   rw[List.getElem?_append_left (by simpa using hi),List.getElem?_map] at h2
   cases e:vs[i]? with
   |none=>rw[e] at h2;cases h2
   |some a=>rw[e] at h2;cases h2;rfl
  obtain⟨u,hu,rv⟩:=r.get ha
  have hp:ps[i]?=some y:=by
   rw[←S.pre,List.getElem?_take_of_lt (by omega)];exact h1
  have ndP:ps.Nodup:=by rw[←S.pre];exact S.nd.sublist (List.take_sublist _ _)
  refine⟨u,rv,?_⟩
  rcases S.par y (List.mem_of_getElem? hp) with k | k
  ·exact .inl ⟨k,bindL_get ndP hp hu k⟩
  ·obtain⟨c,e⟩:=cell_has (n:=s.heap.objs.size+1) k
   refine .inr ⟨.inl k,c,e,?_⟩
   have q:=x.cell y c e
   rw[bindC_get ndP hp hu (by show scope.names.lookup y≠_;rw[k];decide)] at q
   exact q
 ·exact e0.hok.fresh (Nat.le_of_lt (x.above y c (PySem.mem_of_lookup h)))
 ·unfold start
  show _=N.length
  rw[List.length_append,List.length_map,List.length_replicate]
  omega
theorem fn_of {CX:CXT}{P:Program}{w:World}{K:PySem.W.Frag}{mg:Str->Option Value}{base:Heap}{k:Nat}{f:Addr}{name qual:Str}{params:Arguments}{body:List Stmt}{scope:Scope}{dV kV doc pm cdv ct oc:Value}{an od:Option Addr}
  {osl:Array (Option Value)}{N ps:List Str}{sp:Sp} (lk:K.lookup f=some ⟨oc,od,.func (PySem.W.fnOf name qual params body scope dV kV doc pm an cdv ct),osl⟩) (hcd:PySem.W.codeIn K cdv qual=true) (S:FnScope N ps scope)
  (len:∀vs H Q E,sp vs H Q E->vs.length=ps.length)
  (hbody:∀(A:Around) (outer:List Env) (s:Shared) (H:Hp) (vs:List V) (Q:VK) (E:XK),Room k (A.deeper (envOfC qual scope s.heap.objs.size f cdv))->sp vs H Q E->
    ∃t,PSs (cxOf CX P w K mg base N qual scope f cdv A outer s H E) body t∧t { nx:=fun _ H'=>Q .non H',rt:=Q } (start N vs) H) :
  FnOk P w K mg base CX (k+1) f (PySem.W.fnOf name qual params body scope dV kV doc pm an cdv ct) ps sp:=by
 refine⟨len,fun A outer s H args us vs Q E hr e0 hb r hsp=>?_⟩
 have hl:=len _ _ _ _ hsp
 have KX:K.In s.heap:=e0.mod.kin.keeps fun b o e=>(e0.bs b o e).1
 have lim:s.heap.NoLimit:=e0.mod.nolimit.keeps fun b o e=>(e0.bs b o e).1
 have hkind:∀y∈ps.zip us,scope.names.lookup y.1=some .local∨(scope.names.lookup y.1=some .cell∧((cellsFrom (s.heap.objs.size+1) scope.names []).lookup y.1).isSome=true):=fun⟨n,v⟩ hy=>by
  rcases S.par n (List.of_mem_zip hy).1 with q | q
  ·exact .inl q
  ·exact .inr ⟨q,PySem.W.cellsFrom_some _ _ _ (.inl q)⟩
 refine codeAny_call_function hr.depth (KX _ _ lk) rfl S.co S.gen rfl (PySem.W.codeRec_of KX hcd) (hb _ _ _ _ ?_)
 refine wpAny_newFunctionEnv_cells S.kind hkind fun env he s1 x=>?_
 subst he
 refine⟨lim.keeps x.toInCall.keep,codeAny_func ?_⟩
 obtain⟨t,ht,hq⟩:=hbody A outer s H vs Q E (hr.deeper _) hsp
 have I:Inv (cxOf CX P w K mg base N qual scope f cdv A outer s H E) [] (start N vs) H s1:=inv_start S hr.hd e0 hl r x
 refine wpAny_mono (ht [] s1 (start N vs) H _ I hq) (fun fl s' hs=>?_) fun e s' hs=>hs
 have fin:∀{σ':St}{H':Hp}{v:V}{u:Value},Inv (cxOf CX P w K mg base N qual scope f cdv A outer s H E) [] σ' H' s'->RelV v u->Q v H'->CE outer P w H s Q u s':=
  fun {σ' H' v u} J rv q=>⟨v,H',J.os,J.bare,J.base,J.hok,rv,q⟩
 cases fl with
 |ret u=>
   obtain⟨v,σ',H',J,rv,q⟩:=hs
   exact fin J rv q
 |next=>
   obtain⟨σ',H',J,q⟩:=hs
   exact fin (v:=V.non) (u:=Value.none) J rfl q
 |brk=>
   obtain⟨_,_,_,q⟩:=hs
   exact False.elim q
 |cont=>
   obtain⟨_,_,_,q⟩:=hs
   exact False.elim q
open PySem PySem.Spec PyProof.Rows
section
variable{X:Cx}{x:Str}{p pos:Pos}{e:Expr}{es:List Expr}{t:TA}{id T:String}{r:List V->Hp->VK->Prop}
def tCB(r:List V->Hp->VK->Prop)(t:TA):TE:=fun σ H Q=>t σ H fun vs H1=>r vs H1 Q
theorem pe_callB(hc:CallR X (.builtin id) r)(hg:Gl X x)(hm:X.mg x=none)(hv:bootBuiltins x=some (.builtin id))(ha:PA X (e::es) t)(hn:x≠"__name__":=by decide)(hdb:(x==("__debug__":Str))=false:=by decide)
  (he:starEach (e::es) X.env=(false,eval e X.env)::starEach es X.env:=by rfl) (hpl:(backTo pos (starEach es X.env)).any (·.1)=false:=by rfl):PE X (.Call (.Name x p) (e::es) [] pos) (tCB r t):=by
 intro pins s σ H Q I h
 refine wpAny_Call_Name_kw (ld_blt I hg hm hv ?_ hn hdb)
 exact PyProof.Rows.callWith_builtin1 (thn (ha pos pins s σ H _ I h) fun us s1 ⟨vs,H1,I1,r1,q1⟩=>hc pins s1 σ H1 vs us Q I1 r1 q1) he hpl
theorem pe_callTy(hc:CallR X (.type T) r)(hg:Gl X x)(hm:X.mg x=none)(hv:bootBuiltins x=some (.type T))(ha:PA X (e::es) t)(hn:x≠"__name__":=by decide)(hdb:(x==("__debug__":Str))=false:=by decide)
  (he:starEach (e::es) X.env=(false,eval e X.env)::starEach es X.env:=by rfl) (hpl:(backTo pos (starEach es X.env)).any (·.1)=false:=by rfl):PE X (.Call (.Name x p) (e::es) [] pos) (tCB r t):=by
 intro pins s σ H Q I h
 refine wpAny_Call_Name_kw (ld_blt I hg hm hv ?_ hn hdb)
 exact PyProof.Rows.callWith_type1 (thn (ha pos pins s σ H _ I h) fun us s1 ⟨vs,H1,I1,r1,q1⟩=>hc pins s1 σ H1 vs us Q I1 r1 q1) he hpl
end
end L2
namespace HT
open PySem PyProof.Rows
section
open PySem.SeqAt
open PySem.AutoSeq1 (wpAny_loadPart')
open PySem.MeetsSeq PySem.MeetsSeq2 PySem.MeetsSeq3
end
section
variable{prog:Program}{w:World}{A:Around}{E:Value->Shared->Prop}{s:Shared}
theorem cat_tup {t b:Addr}{vs ws:List Value}{Q:Value->Shared->Prop} (ht:IsTup s.heap t vs.toArray) (hb:IsTup s.heap b ws.toArray) (hv:vs≠[])
  (h1:ws=[]->Q (.ref t) s) (h2:ws≠[]->Q (.ref s.heap.objs.size) { s with heap:=s.heap.push { cls:=.type "tuple",data:=.seq (vs++ws).toArray } })
  (hsz:vs.length+ws.length≤sizeLine):wpAny (model prog w) A (binaryOp .Add (.ref t) (.ref b)) Q E s:=by
 obtain⟨⟨cls,dd,data,sl⟩,ho,hc,n,hd⟩:=id ht
 obtain⟨⟨cls2,dd2,data2,sl2⟩,ho2,hc2,n2,hd2⟩:=id hb
 simp only at hc hd hc2 hd2
 subst hc hd hc2 hd2
 have e:vs.toArray++ws.toArray=(vs++ws).toArray:=by simp
 by_cases hw:ws=[]
 ·exact concat_meets ⟨_,ho,rfl⟩ ⟨_,ho2,rfl⟩ noFill_tuple_add seq_tuple_add PySem.F.slot_tuple_add PySem.F.entry_tuple_add (PySem.F.args_tuple_add_2 _ _)
   (tuple_addW1 t b vs.toArray ws.toArray n n2 dd dd2 sl sl2 (by simpa using hv) (by simp[hw])) ⟨ho,ho2,h1 hw⟩
 ·refine concat_meets ⟨_,ho,rfl⟩ ⟨_,ho2,rfl⟩ noFill_tuple_add seq_tuple_add PySem.F.slot_tuple_add PySem.F.entry_tuple_add (PySem.F.args_tuple_add_2 _ _)
   (tuple_addW2 t b vs.toArray ws.toArray n n2 dd dd2 sl sl2 (by simpa using hv) (by simpa using hw) (by rw[List.size_toArray,List.size_toArray];exact hsz)) ⟨ho,ho2,?_⟩
  rw[e]
  exact h2 hw
def sIx(n d:Nat):Option Int->Nat
 |none=>d
 |some v=>if v<0 then (v+(n:Int)).toNat else min v.toNat n
theorem sIx_none(n d:Nat):sIx n d none=d:=rfl
theorem sIx_nat(n d k:Nat):sIx n d (some (k:Int))=min k n:=by
 show (if (k:Int)<0 then ((k:Int)+(n:Int)).toNat else min (k:Int).toNat n)=min k n
 rw[if_neg (by omega),Int.toNat_natCast]
theorem sIx_le (n d:Nat) (hd:d≤n) (o:Option Int):sIx n d o≤n:=by
 cases o with
 |none=>exact hd
 |some v=>
   show (if v<0 then (v+(n:Int)).toNat else min v.toNat n)≤n
   by_cases hv:v<0
   ·rw[if_pos hv];omega
   ·rw[if_neg hv];exact Nat.min_le_right _ _
theorem clip_eq(v:Int)(n d:Nat):(if v<0 then max (v+(n:Int)) 0 else min v (n:Int))=((sIx n d (some v):Nat):Int):=by
 show (if v<0 then max (v+(n:Int)) 0 else min v (n:Int))=(((if v<0 then (v+(n:Int)).toNat else min v.toNat n):Nat):Int)
 by_cases hv:v<0
 ·simp only[if_pos hv];omega
 ·simp only[if_neg hv];omega
theorem adjust_gen(lo hi:Option Int)(n:Nat):Builtin.Slice.sliceAdjust lo hi 1 (n:Int)=(((sIx n 0 lo:Nat):Int),((sIx n n hi:Nat):Int)):=by
 have h1:¬ ((1:Int)<0):=by omega
 unfold Builtin.Slice.sliceAdjust
 simp only[h1,if_false]
 refine Prod.ext ?_ ?_
 ·cases lo with
  |none=>rfl
  |some v=>exact clip_eq v n 0
 ·cases hi with
  |none=>rfl
  |some v=>exact clip_eq v n n
theorem places_gen(i j:Nat):Builtin.Slice.slicePlaces (i:Int) (j:Int) 1=j-i:=by
 unfold Builtin.Slice.slicePlaces
 have h1:(1:Int) > 0:=by omega
 simp only[h1,if_true,Int.ediv_one]
 split<;>omega
theorem slicePart_{v:Value}{o:Option Int}{Q:Option Int->Shared->Prop}(p:IsPart v o)(h:Q o s):wpAny (model prog w) A (Builtin.Slice.slicePartIndex v) Q E s:=by
 cases p with
 |none=>exact slicePart_none h
 |int i t=>exact slicePart_int h
theorem sliceApplied_gen{sl:Addr}{vl vu:Value}{lo hi:Option Int}{n:Nat}{Q:Int×Int×Nat->Shared->Prop}(hs:s.heap.IsSliceOf sl vl vu .none)(pl:IsPart vl lo)(pu:IsPart vu hi)
  (h:Q (((sIx n 0 lo:Nat):Int),1,sIx n n hi-sIx n 0 lo) s):wpAny (model prog w) A (Builtin.Slice.sliceApplied (.ref sl) (pure (n:Int))) Q E s:=by
 obtain⟨os,hos,hcs,hds⟩:=id hs
 unfold Builtin.Slice.sliceApplied Builtin.Slice.sliceFields
 refine wpAny_bind (wpAny_bind (wpAny_field hos hds (x:=vl) rfl (wpAny_bind (wpAny_field hos hds (x:=vu) rfl (wpAny_bind (wpAny_field hos hds (x:=.none) rfl (wpAny_pure ?_)))))))
 refine wpAny_bind (slicePart_none ?_)
 show wpAny _ _ (if ((1:Int)==0)=true then _ else _) _ _ s
 rw[if_neg (by decide)]
 refine wpAny_bind (slicePart_ pl (wpAny_bind (slicePart_ pu (wpAny_bind (wpAny_pure ?_)))))
 show wpAny _ _ (match Builtin.Slice.sliceAdjust lo hi 1 (n:Int) with | (lo,hi)=>pure (lo,(1:Int),Builtin.Slice.slicePlaces lo hi 1)) _ _ s
 rw[adjust_gen lo hi n]
 show wpAny _ _ (pure (((sIx n 0 lo:Nat):Int),(1:Int),Builtin.Slice.slicePlaces ((sIx n 0 lo:Nat):Int) ((sIx n n hi:Nat):Int) 1)) _ _ s
 rw[places_gen]
 exact wpAny_pure h
theorem pick_gen(xs:Array Value)(i k:Nat):((List.range k).filterMap fun (m:Nat)=>xs[((i:Int)+(m:Int)*1).toNat]?).toArray=((xs.toList.drop i).take k).toArray:=by
 have e:(fun (m:Nat)=>xs[((i:Int)+(m:Int)*1).toNat]?)=fun m=>xs[i+m]?:=by
  funext m
  have:((i:Int)+(m:Int)*1).toNat=i+m:=by omega
  rw[this]
 rw[e]
 have:=pick_run xs i k
 rw[List.filterMap_map] at this
 have e2:((fun x=>xs[x]?) ∘ fun x=>i+x)=fun m=>xs[i+m]?:=rfl
 rw[e2] at this
 rw[this]
theorem getItem_tuple_cut{t sl:Addr}{items:Array Value}{vl vu:Value}{lo hi:Option Int}{Q:Value->Shared->Prop}(ht:IsTup s.heap t items)(hs:s.heap.IsSliceOf sl vl vu .none)(pl:IsPart vl lo)(pu:IsPart vu hi)
  (hw:¬ (sIx items.size 0 lo=0∧sIx items.size items.size hi=items.size))
  (h:Q (.ref s.heap.objs.size) { s with heap:=s.heap.push { cls:=.type "tuple",data:=.seq ((items.toList.drop (sIx items.size 0 lo)).take (sIx items.size items.size hi-sIx items.size 0 lo)).toArray } })
  (hsz:items.size≤sizeLine):wpAny (model prog w) A (getItem (.ref t) (.ref sl)) Q E s:=by
 have htake:sizeOk (.seq ((items.toList.drop (sIx items.size 0 lo)).take (sIx items.size items.size hi-sIx items.size 0 lo)).toArray):=by
  show ((items.toList.drop (sIx items.size 0 lo)).take (sIx items.size items.size hi-sIx items.size 0 lo)).toArray.size≤sizeLine
  rw[List.size_toArray,List.length_take,List.length_drop,Array.length_toList]
  omega
 have hj:sIx items.size items.size hi≤items.size:=sIx_le _ _ (Nat.le_refl _) hi
 obtain⟨os,hos,hcs,hds⟩:=id hs
 have hTs:s.TypeIs (.ref sl) "slice":=⟨os,hos,hcs⟩
 unfold getItem
 try with_reducible refine wpAny_holding ?_
 first | refine wpAny_bind (wpAny_pure ?_) | skip
 refine wpAny_bind (wpAny_sequenceKey ht.typeIs (by decide) ?_)
 refine wpAny_bind (wpAny_callSpecial?_slot (name:=Str.ofString "__getitem__") ht.typeIs PyProof.Rows.slot_tuple_getitem
  (wpAny_call_entry PyProof.Rows.slot_tuple_getitem ht.typeIs entry_tuple_getitem ?_ (args_tuple_getitem _ _)))
 show wpAny _ _ (Builtin.Tuple.tupleItemsOf (.ref t)>>=_) _ _ s
 refine wpAny_bind (tupleItemsOf_ ht ?_)
 refine wpAny_bind (wpAny_typeOf hTs ?_)
 rw[if_pos (by decide)]
 refine wpAny_bind (sliceApplied_gen hs pl pu ?_)
 have hno:¬ ((((sIx items.size 0 lo:Nat):Int)==0&&(1:Int)==1&&(sIx items.size items.size hi-sIx items.size 0 lo)==items.size)=true):=by
  intro q
  rw[Bool.and_eq_true,Bool.and_eq_true] at q
  have q1:((sIx items.size 0 lo:Nat):Int)=0:=eq_of_beq q.1.1
  have q2:sIx items.size items.size hi-sIx items.size 0 lo=items.size:=eq_of_beq q.2
  exact hw ⟨by omega,by omega⟩
 show wpAny _ _ (if (((sIx items.size 0 lo:Nat):Int)==0&&(1:Int)==1&&(sIx items.size items.size hi-sIx items.size 0 lo)==items.size)=true then _ else _) _ _ s
 rw[if_neg hno,pick_gen]
 first
  |exact wpAny_bind (m:=Builtin.Tuple.tupleExact _) (wpAny_newObj_type (wpAny_pure ⟨_,rfl,wpAny_pure h⟩) htake)
  |exact wpAny_bind (m:=Builtin.Tuple.tupleExact _) (wpAny_newObj_type (wpAny_bind (wpAny_pure (wpAny_pure ⟨_,rfl,wpAny_pure h⟩))) htake)
  |exact wpAny_bind (wpAny_bind (m:=Builtin.Tuple.tupleExact _) (wpAny_newObj_type (wpAny_pure (wpAny_pure ⟨_,rfl,wpAny_pure h⟩)) htake))
  |exact wpAny_bind (wpAny_bind (m:=Builtin.Tuple.tupleExact _) (wpAny_newObj_type (wpAny_pure ⟨_,rfl,wpAny_pure h⟩) htake))
end
end HT
namespace L2
open PySem PySem.Spec PyProof.Rows
abbrev TO:=St->Hp->(Option Int->Hp->Prop)->Prop
def PO (X:Cx) (e:Option Expr) (t:TO):Prop:=
 ∀(pins:List (Addr×Obj)) (s:Shared) (σ:St) (H:Hp) (Q:Option Int->Hp->Prop),Inv X pins σ H s->t σ H Q->
   wpAny (model X.prog X.w) X.A (evalPart e X.env) (fun u s'=>∃o H',Inv X pins σ H' s'∧IsPart u o∧Q o H') X.xe s
def tNoPart:TO:=fun _ H Q=>Q none H
def tPart(t:TE):TO:=fun σ H Q=>t σ H fun x H1=>∃i,x=.int i∧Q (some i) H1
theorem intsAre_of {ns:List Int}:∀ {us:List Value},Vals (ns.map V.int) us->IntsAre us ns:=by
 induction ns with
 |nil=>intro us r;rw[List.map_nil] at r;cases r;exact .nil
 | cons n ns ih=>
   intro us r
   rw[List.map_cons] at r
   cases r with
   |cons r1 r2=>
     obtain⟨t,e⟩:=r1
     subst e
     exact .cons n t (ih r2)
section
variable{X:Cx}{e:Expr}{te:TE}{lo hi:Option Expr}{tl th:TO}{pos p2:Pos}
theorem po_none:PO X none tNoPart:=by
 intro pins s σ H Q I h
 rw[evalPart_none]
 exact wpAny_pure ⟨none,H,I,.none,h⟩
theorem po_some(h:PE X e te):PO X (some e) (tPart te):=by
 intro pins s σ H Q I hw
 rw[evalPart_some]
 refine thn (h pins s σ H _ I hw) fun u s1 ⟨x,H1,I1,r1,q1⟩=>?_
 obtain⟨i,rfl,q⟩:=q1
 obtain⟨t,rfl⟩:=r1
 exact⟨some i,H1,I1,.int i t,q⟩
def SlR (X:Cx) (r:V->Option Int->Option Int->Hp->VK->Prop):Prop:=
 ∀(pins:List (Addr×Obj)) (s:Shared) (σ:St) (H:Hp) (x:V) (v vl vu:Value) (lo hi:Option Int) (sl:Addr) (Q:VK),Inv X pins σ H s->RelV x v->s.heap.IsSliceOf sl vl vu .none->IsPart vl lo->IsPart vu hi->r x lo hi H Q->
   ∃T id,typeLookup (.type T) "__getitem__"=pure (some (.builtin id))∧s.TypeIs v T∧wpAny (model X.prog X.w) X.A (getItem v (.ref sl)) (EP X pins σ Q) X.xe s
def tSl(r:V->Option Int->Option Int->Hp->VK->Prop)(te:TE)(tl th:TO):TE:=fun σ H Q=>te σ H fun x H1=>tl σ H1 fun l H2=>th σ H2 fun u H3=>r x l u H3 Q
theorem pe_slice{r:V->Option Int->Option Int->Hp->VK->Prop}(hr:SlR X r)(he:PE X e te)(hl:PO X lo tl)(hu:PO X hi th):PE X (.Subscript e (.Slice lo hi none p2) pos) (tSl r te tl th):=by
 intro pins s σ H Q I h
 refine Subscript_ (thn (he pins s σ H _ I h) fun v s1 ⟨x,H1,I1,r1,q1⟩=>?_)
 refine wpAny_Slice (thn (hl pins s1 σ H1 _ I1 q1) fun vl s2 ⟨l,H2,I2,pl,q2⟩=>thn (hu pins s2 σ H2 _ I2 q2) fun vu s3 ⟨u,H3,I3,pu,q3⟩=>?_)
 rw[evalPart_none]
 refine wpAny_pure ?_
 have I4:Inv X pins σ H3 { s3 with heap:=s3.heap.push { cls:=.type "slice",data:=.fields #[vl,vu,.none] } }:=I3.kept (t':=s3.toks) fun b ob q=>Heap.get?_push_of_some _ q
 obtain⟨T,id,hT,ht,hg⟩:=hr pins { s3 with heap:=s3.heap.push { cls:=.type "slice",data:=.fields #[vl,vu,.none] } } σ H3 x v vl vu l u s3.heap.objs.size Q I4 r1 (Heap.IsSliceOf.new ..) pl pu q3
 show wpAny (model X.prog X.w) X.A (subscriptTail e (.Slice lo hi none p2) v (.ref s3.heap.objs.size)) (EP X pins σ Q) X.xe { s3 with heap:=s3.heap.push { cls:=.type "slice",data:=.fields #[vl,vu,.none] } }
 exact tail_any (ops:=[.ref s3.heap.objs.size,v]) ht hT hg (by with_unfolding_all rfl)
def cutV(xs:List V)(lo hi:Option Int):List V:=(xs.drop (HT.sIx xs.length 0 lo)).take (HT.sIx xs.length xs.length hi-HT.sIx xs.length 0 lo)
theorem cutV_length(xs:List V)(lo hi:Option Int):(cutV xs lo hi).length≤xs.length:=by
 unfold cutV
 rw[List.length_take,List.length_drop]
 omega
def rSlT(K:PySem.W.Frag):V->Option Int->Option Int->Hp->VK->Prop:=fun x lo hi H Q=>∃a xs,x=.ref a∧SqT K H a xs ∧
 ¬ (HT.sIx xs.length 0 lo=0∧HT.sIx xs.length xs.length hi=xs.length)∧∀p,H p=none->Q (.ref p) (upd H p (.tup (cutV xs lo hi)))
theorem sl_tup:SlR X (rSlT X.K):=by
 intro pins s σ H x v vl vu lo hi sl Q I rx hs pl pu h
 obtain⟨a,xs,rfl,hx,hw,q⟩:=h
 cases rx
 obtain⟨its,r,ht,hz⟩:=I.tuple hx
 have hlen:its.toArray.size=xs.length:=by rw[List.size_toArray];exact r.length.symm
 refine⟨"tuple",_,PyProof.Rows.slot_tuple_getitem.lookup,ht.typeIs,?_⟩
 refine HT.getItem_tuple_cut ht hs pl pu (by rw[hlen];exact hw) ?_ (by rw[hlen];exact hz)
 rw[hlen]
 refine⟨.ref s.heap.objs.size,_,I.laid (t':=s.toks) (o:=.tup (cutV xs lo hi)) (fun b ob q=>Heap.get?_push_of_some _ q) (Nat.le_refl _) ?_,rfl,q _ (I.hok.fresh (Nat.le_refl _))⟩
 exact⟨Nat.le_trans (cutV_length xs lo hi) hz,_,(r.drop (HT.sIx xs.length 0 lo)).take (HT.sIx xs.length xs.length hi-HT.sIx xs.length 0 lo),IsTup.new _ _⟩
def rCatT(K:PySem.W.Frag):R2:=fun x y H Q=>∃a b xs ys,x=.ref a∧y=.ref b∧SqT K H a xs∧SqT K H b ys∧xs≠[]∧xs.length+ys.length≤sizeLine ∧
 (ys=[]->Q (.ref a) H)∧(ys≠[]->∀p,H p=none->Q (.ref p) (upd H p (.tup (xs++ys))))
theorem Vals.nil_iff{xs:List V}{us:List Value}(r:Vals xs us):us=[] ↔ xs=[]:=by
 cases r with
 |nil=>simp
 |cons _ _=>simp
theorem op_catT:OpR X (binaryOp .Add) (rCatT X.K):=by
 intro pins s σ H x y v u Q I rx ry h
 obtain⟨a,b,xs,ys,rfl,rfl,ha,hb,hx,hz,q1,q2⟩:=h
 cases rx
 cases ry
 obtain⟨its,r1,p1,_⟩:=I.tuple ha
 obtain⟨its2,r2,p2,_⟩:=I.tuple hb
 refine HT.cat_tup p1 p2 (fun z=>hx (r1.nil_iff.mp z)) (fun z=>⟨.ref a,H,I,rfl,q1 (r2.nil_iff.mp z)⟩) (fun z=>?_) (by rw[←r1.length,←r2.length];exact hz)
 refine⟨.ref s.heap.objs.size,_,I.laid (t':=s.toks) (o:=.tup (xs++ys)) (fun b ob q=>Heap.get?_push_of_some _ q) (Nat.le_refl _) ?_,rfl,q2 (fun w=>z (r2.nil_iff.mpr w)) _ (I.hok.fresh (Nat.le_refl _))⟩
 exact⟨by rw[List.length_append];exact hz,_,r1.append r2,IsTup.new _ _⟩
end
open PySem PySem.Spec PyProof.Rows
def ixN(n:Nat)(i:Int):Option Nat:=if 0≤i then (if i<n then some i.toNat else none) else if -(n:Int)≤i then some (i+n).toNat else none
def atI{α:Type}(xs:List α)(i:Int):Option α:=(ixN xs.length i).bind fun j=>xs[j]?
theorem ixN_seq {n:Nat}{i:Int}{j:Nat} (h:ixN n i=some j):seqIndex? i n=some j∧j<n∧-(n:Int)≤i∧i<n:=by
 unfold ixN at h
 by_cases h0:0≤i
 ·rw[if_pos h0] at h
  by_cases h1:i<n
  ·rw[if_pos h1] at h
   have e:i.toNat=j:=Option.some.inj h
   exact⟨by rw[seqIndex_of h0 h1,e],by omega,by omega,h1⟩
  ·rw[if_neg h1] at h;cases h
 ·rw[if_neg h0] at h
  by_cases h1:-(n:Int)≤i
  ·rw[if_pos h1] at h
   have e:(i+n).toNat=j:=Option.some.inj h
   exact⟨by rw[seqIndex_neg (by omega) h1,e],by omega,h1,by omega⟩
  ·rw[if_neg h1] at h;cases h
theorem atI_get {α:Type}{xs:List α}{i:Int}{v:α} (h:atI xs i=some v):∃ j,seqIndex? i xs.length=some j∧xs[j]?=some v∧j<xs.length∧-(xs.length:Int)≤i∧i<xs.length:=by
 unfold atI at h
 cases e:ixN xs.length i with
 |none=>rw[e] at h;cases h
 |some j=>
   rw[e] at h
   obtain⟨h1,h2,h3,h4⟩:=ixN_seq e
   exact⟨j,h1,h,h2,h3,h4⟩
def PlainIx(b:Expr):Prop:=∀o i,subscripted b false o i=operate [o,i] (getItem o i)
def IxR (X:Cx) (r:R2):Prop:=
 ∀(value slice:Expr) (pins:List (Addr×Obj)) (s:Shared) (σ:St) (H:Hp) (x y:V) (v u:Value) (Q:VK),Inv X pins σ H s->RelV x v->RelV y u->r x y H Q->
   subscripted slice false v u=operate [v,u] (getItem v u)->wpAny (model X.prog X.w) X.A (subscriptTail value slice v u) (EP X pins σ Q) X.xe s
def MtR (X:Cx) (id:String) (r:V->List V->Hp->VK->Prop):Prop:=
 ∀(pins:List (Addr×Obj)) (s:Shared) (σ:St) (H:Hp) (x:V) (xs:List V) (v:Value) (us:List Value) (Q:VK),Inv X pins σ H s->RelV x v->Vals xs us->r x xs H Q->
   wpAny (model X.prog X.w) X.A (call (.builtin id) (v::us)) (EP X pins σ Q) X.xe s
section
variable{X:Cx}{a b:Expr}{ta tb:TE}{pos:Pos}
theorem pe_ix{r:R2}(hr:IxR X r)(ha:PE X a ta)(hb:PE X b tb)(hs:PlainIx b):PE X (.Subscript a b pos) (tOp r ta tb):=by
 intro pins s σ H Q I h
 exact Subscript_ (binT ha hb I h fun v u s2 x y H2 I2 rx ry q=>hr a b pins s2 σ H2 x y v u Q I2 rx ry q (hs _ _))
def rIxL(K:PySem.W.Frag):R2:=fun x y H Q=>∃p xs i v,x=.ref p∧y=.int i∧SqL K H p xs∧atI xs i=some v∧Q v H
def rIxT(K:PySem.W.Frag):R2:=fun x y H Q=>∃p xs i v,x=.ref p∧y=.int i∧SqT K H p xs∧atI xs i=some v∧Q v H
theorem ix_list:IxR X (rIxL X.K):=by
 intro value slice pins s σ H x y v u Q I rx ry h hs
 obtain⟨p,xs,i,z,rfl,rfl,hq,he,q⟩:=h
 cases rx
 obtain⟨t,rfl⟩:=ry
 obtain⟨its,r,pl,hz⟩:=I.list hq
 obtain⟨j,h1,h2,h3,h4,h5⟩:=atI_get he
 obtain⟨w,ew,rw'⟩:=r.get h2
 have hl:=r.length
 have hn:=line63
 have fin:EP X pins σ Q w s:=⟨z,H,I,rw',q⟩
 by_cases h0:0≤i
 ·have hj:i.toNat=j:=by
   rw[seqIndex_of h0 h5] at h1
   exact Option.some.inj h1
  exact item_listR pl.isList h0 (by omega) (by rw[hj];simpa using ew) fin hs
 ·have hj:(i+(its.toArray.size:Int)).toNat=j:=by
   rw[seqIndex_neg (by omega) h4] at h1
   rw[List.size_toArray,←hl]
   exact Option.some.inj h1
  exact subscriptTail_builtinR (x:=w) pl.isList.typeIs slot_list_getitem.lookup
   (wpAny_getItem_list_neg (Q:=fun r s'=>r=w∧EP X pins σ Q r s') pl.isList (by omega) (by rw[List.size_toArray]<;>omega) (by omega) (by rw[hj];simpa using ew) ⟨rfl,fin⟩) hs
theorem ix_tup:IxR X (rIxT X.K):=by
 intro value slice pins s σ H x y v u Q I rx ry h hs
 obtain⟨p,xs,i,z,rfl,rfl,hq,he,q⟩:=h
 cases rx
 obtain⟨t,rfl⟩:=ry
 obtain⟨its,r,pl,hz⟩:=I.tuple hq
 obtain⟨j,h1,h2,h3,h4,h5⟩:=atI_get he
 obtain⟨w,ew,rw'⟩:=r.get h2
 have hl:=r.length
 have hn:=line63
 have fin:EP X pins σ Q w s:=⟨z,H,I,rw',q⟩
 exact subscriptTail_builtinR (x:=w) pl.typeIs slot_tuple_getitem.lookup
  (getItem_tuple (j:=j) (Q:=fun r s'=>r=w∧EP X pins σ Q r s') pl (by omega) (by omega) (by rw[List.size_toArray,←hl];exact h1) (by simpa using ew) ⟨rfl,fin⟩) hs
theorem mapSeq_set(its:List Value)(n j:Nat)(u:Value):Obj.mapSeq (·.setIfInBounds j u) { cls:=.type "list",data:=.seq its.toArray n }={ cls:=.type "list",data:=.seq (its.set j u).toArray n }:=by
 simp[Obj.mapSeq]
theorem Inv.lst{pins:List (Addr×Obj)}{σ:St}{H:Hp}{s:Shared}{p:Addr}{xs:List V}(I:Inv X pins σ H s)(h:H p=some (.lst xs)) :
  ∃(its:List Value) (n:Nat),Vals xs its∧s.heap.get? p=some { cls:=.type "list",data:=.seq its.toArray n }∧xs.length≤sizeLine:=by
 obtain⟨z,its,n,r,e⟩:=I.hok p _ h
 exact⟨its,n,r,e,z⟩
theorem Inv.lstUpd{pins:List (Addr×Obj)}{σ:St}{H:Hp}{s:Shared}{p:Addr}{xs ys:List V}{its its':List Value}{n n':Nat}{f:Obj->Obj}(I:Inv X pins σ H s)(h:H p=some (.lst xs))
  (ho:s.heap.get? p=some { cls:=.type "list",data:=.seq its.toArray n }) (hf:f { cls:=.type "list",data:=.seq its.toArray n }={ cls:=.type "list",data:=.seq its'.toArray n' }) (r:Vals ys its') (hz:ys.length≤sizeLine) (t:Nat) :
  Inv X pins σ (upd H p (.lst ys)) { s with heap:=s.heap.update p f,toks:=t }:=by
 have e:(s.heap.update p f).get? p=some { cls:=.type "list",data:=.seq its'.toArray n' }:=by
  rw[Heap.get?_update_self f ho (by rw[hf]<;>rfl),hf]
 refine I.write (x:=p) (e:=p) (by rw[h];trivial) (.inl rfl) (fun b u hb q=>(Heap.get?_update_other _ _ (Ne.symm hb)).trans q) ⟨_,e⟩ ?_
 exact⟨hz,its',n',r,e⟩
def rSetL:V->V->V->Hp->(Hp->Prop)->Prop:=fun o i v H Q=>∃p xs k j,o=.ref p∧i=.int k∧H p=some (.lst xs)∧ixN xs.length k=some j∧Q (upd H p (.lst (xs.set j v)))
theorem set_list:PSet X rSetL:=by
 intro pins s σ H o i v ov iv u Q I ro ri rv h
 obtain⟨p,xs,k,j,rfl,rfl,hp,hj,q⟩:=h
 cases ro
 obtain⟨t,rfl⟩:=ri
 obtain⟨its,n,r,ho,hz⟩:=I.lst hp
 obtain⟨h1,h2,h3,h4⟩:=ixN_seq hj
 have hl:=r.length
 have hn:=line63
 have I':Inv X pins σ (upd H p (.lst (xs.set j v))) { s with heap:=s.heap.update p (Obj.mapSeq (·.setIfInBounds j u)) }:=
  I.lstUpd hp ho (mapSeq_set its n j u) (r.set rv j) (by rw[List.length_set];exact hz) s.toks
 by_cases h0:0≤k
 ·have hk:k.toNat=j:=by
   rw[seqIndex_of h0 h4] at h1
   exact Option.some.inj h1
  exact PySem.W.ki_setAt ho h0 (by omega) (by rw[List.size_toArray,←hl];exact h4) (by rw[hk];exact⟨_,I',q⟩)
 ·have hk:(k+(its.toArray.size:Int)).toNat=j:=by
   rw[seqIndex_neg (by omega) h3] at h1
   rw[List.size_toArray,←hl]
   exact Option.some.inj h1
  exact PySem.W.ki_setBack ho (by omega) (by rw[List.size_toArray,←hl];exact h3) (by omega) (by rw[hk];exact⟨_,I',q⟩)
theorem slice_bounds (lo hi:Option Int) (n:Nat):(sliceBounds lo hi none n).1=((HT.sIx n 0 lo:Nat):Int)∧(sliceBounds lo hi none n).2.1=((HT.sIx n n hi:Nat):Int)∧(sliceBounds lo hi none n).2.2=1:=by
 refine⟨?_,?_,rfl⟩
 ·cases lo with
  |none=>simp[sliceBounds,HT.sIx]
  |some i=>
    simp only[sliceBounds,HT.sIx,Option.getD_none,show (1:Int) > 0 by decide,if_true]
    by_cases h:i<0
    ·simp only[h,if_true]<;>omega
    ·simp only[h,if_false]<;>omega
 ·cases hi with
  |none=>simp[sliceBounds,HT.sIx]
  |some i=>
    simp only[sliceBounds,HT.sIx,Option.getD_none,show (1:Int) > 0 by decide,if_true]
    by_cases h:i<0
    ·simp only[h,if_true]<;>omega
    ·simp only[h,if_false]<;>omega
theorem slicePick_cut(its:List Value)(lo hi:Option Int):slicePick its.toArray lo hi none=((its.drop (HT.sIx its.length 0 lo)).take (HT.sIx its.length its.length hi-HT.sIx its.length 0 lo)).toArray:=by
 obtain⟨h1,h2,h3⟩:=slice_bounds lo hi its.toArray.size
 unfold slicePick
 rw[h1,h2,h3]
 simp only[sliceRange_one,pick_run,List.size_toArray]<;>rfl
def rSlL(K:PySem.W.Frag):V->Option Int->Option Int->Hp->VK->Prop:=fun x lo hi H Q=>∃a xs,x=.ref a∧SqL K H a xs∧∀p,H p=none->Q (.ref p) (upd H p (.lst (cutV xs lo hi)))
theorem sl_list:SlR X (rSlL X.K):=by
 intro pins s σ H x v vl vu lo hi sl Q I rx hs pl pu h
 obtain⟨a,xs,rfl,hx,q⟩:=h
 cases rx
 obtain⟨its,r,ht,hz⟩:=I.list hx
 have hlen:=r.length
 refine⟨"list",_,slot_list_getitem.lookup,ht.isList.typeIs,?_⟩
 refine wpAny_getItem_list_slice ht.isList hs pl pu .none (by simp) ?_ (by rw[List.size_toArray]<;>omega)
 rw[slicePick_cut,←hlen]
 refine⟨.ref s.heap.objs.size,_,I.laid (t':=s.toks) (o:=.lst (cutV xs lo hi)) (fun b ob q=>Heap.get?_push_of_some _ q) (Nat.le_refl _) ?_,rfl,q _ (I.hok.fresh (Nat.le_refl _))⟩
 exact⟨Nat.le_trans (cutV_length xs lo hi) hz,_,0,(r.drop (HT.sIx xs.length 0 lo)).take (HT.sIx xs.length xs.length hi-HT.sIx xs.length 0 lo),Heap.get?_push_size _ rfl⟩
theorem call_len_seq:CallR X (.builtin "len") (fun xs H Q=>∃p ys,xs=[.ref p]∧(SqL X.K H p ys∨SqT X.K H p ys)∧Q (.int ys.length) H):=by
 intro pins s σ H xs us Q I r h
 obtain⟨p,ys,rfl,hq,q⟩:=h
 obtain⟨u,rfl,rx⟩:=vals1 r
 cases rx
 have hn:=line63
 rcases hq with hq | hq
 ·obtain⟨its,r',pl,hz⟩:=I.list hq
  have hlen:=r'.length
  exact Calls.call_len_list pl.isList (by simp only[List.size_toArray]<;>omega) ⟨.int ys.length,H,I.tok _,⟨s.toks+1,by rw[List.size_toArray,hlen]⟩,q⟩
 ·obtain⟨its,r',pl,hz⟩:=I.tuple hq
  have hlen:=r'.length
  exact len_tuple pl (by simp only[List.size_toArray]<;>omega) ⟨.int ys.length,H,I.tok _,⟨s.toks+1,by rw[List.size_toArray,hlen]⟩,q⟩
theorem call_len_str:CallR X (.builtin "len") (fun xs H Q=>∃z,xs=[.str z]∧z.length≤sizeLine∧Q (.int z.length) H):=by
 intro pins s σ H xs us Q I r h
 obtain⟨z,rfl,hz,q⟩:=h
 obtain⟨u,rfl,t,rfl⟩:=vals1 r
 have hn:=line63
 exact len_str (by omega) ⟨.int z.length,H,I.tok _,⟨_,rfl⟩,q⟩
theorem CallR.or{f:Value}{r r':List V->Hp->VK->Prop}(h:CallR X f r)(h':CallR X f r'):CallR X f (fun xs H Q=>r xs H Q∨r' xs H Q):=by
 intro pins s σ H xs us Q I rs q
 rcases q with q | q
 ·exact h pins s σ H xs us Q I rs q
 ·exact h' pins s σ H xs us Q I rs q
theorem call_list_of:CallR X (.type "list") (fun xs H Q=>∃ p ys,xs=[.ref p]∧(SqL X.K H p ys∨SqT X.K H p ys)∧∀ l,H l=none->Q (.ref l) (upd H l (.lst ys))):=by
 intro pins s σ H xs us Q I r h
 obtain⟨p,ys,rfl,hq,q⟩:=h
 obtain⟨u,rfl,rx⟩:=vals1 r
 cases rx
 have fin:∀(its:List Value),Vals ys its->ys.length≤sizeLine->∀(h':Heap) (c':Nat),(∀b o',s.heap.get? b=some o'->h'.get? b=some o')->
   h'.get? s.heap.objs.size=some { cls:=.type "list",dict:=none,data:=.seq its.toArray c',slots:=#[] }->EP X pins σ Q (.ref s.heap.objs.size) { s with heap:=h' }:=fun its r' hz h' c' kp e=>
  ⟨.ref s.heap.objs.size,_,I.laid (t':=s.toks) kp (Nat.le_refl _) (show ObjOk X.prog X.w _ h' _ (.lst ys) from⟨hz,its,c',r',e⟩),rfl,q _ (I.hok.fresh (Nat.le_refl _))⟩
 rcases hq with hq | hq
 ·obtain⟨its,r',pl,hz⟩:=I.list hq
  have hlen:=r'.length
  obtain⟨o,ho,hc,n,hd⟩:=pl.isList
  exact call_list_seq p (.inl rfl) ho hc hd (fun h' c' kp e=>fin its r' hz h' c' kp e) (by simp only[List.size_toArray]<;>omega)
 ·obtain⟨its,r',pl,hz⟩:=I.tuple hq
  have hlen:=r'.length
  obtain⟨o,ho,hc,n,hd⟩:=pl
  exact call_list_seq p (.inr rfl) ho hc hd (fun h' c' kp e=>fin its r' hz h' c' kp e) (by simp only[List.size_toArray]<;>omega)
theorem call_tuple_of:CallR X (.type "tuple") (fun xs H Q=>∃ p ys,xs=[.ref p]∧((SqL X.K H p ys∧∀ l,H l=none->Q (.ref l) (upd H l (.tup ys)))∨(SqT X.K H p ys∧Q (.ref p) H))):=by
 intro pins s σ H xs us Q I r h
 obtain⟨p,ys,rfl,h⟩:=h
 obtain⟨u,rfl,rx⟩:=vals1 r
 cases rx
 rcases h with ⟨hq,q⟩ | ⟨hq,q⟩
 ·obtain⟨its,r',pl,hz⟩:=I.list hq
  have hlen:=r'.length
  refine call_tuple_list pl.isList (fun h' kp=>?_) (by simp only[List.size_toArray]<;>omega)
  have I1:Inv X pins σ H { s with heap:=h' }:=I.kept (t':=s.toks) kp
  have I2:Inv X pins σ (upd H h'.objs.size (.tup ys)) { s with heap:=h'.push { cls:=.type "tuple",data:=.seq its.toArray } }:=
   I1.laid (t':=s.toks) (fun b o e=>Heap.get?_push_of_some _ e) (Nat.le_refl _) (show ObjOk X.prog X.w _ _ _ (.tup ys) from⟨hz,its,r',IsTup.new _ _⟩)
  exact⟨.ref h'.objs.size,_,I2,rfl,q _ (I1.hok.fresh (Nat.le_refl _))⟩
 ·obtain⟨its,r',pl,hz⟩:=I.tuple hq
  exact call_tuple_same pl ⟨.ref p,H,I,rfl,q⟩
def tyV (K:PySem.W.Frag) (T:String) (x:V) (H:Hp):Prop:=match x with
 |.str _=>T = "str"
 |.int _=>T = "int"
 |.ref p=>(T = "list"∧∃xs,SqL K H p xs)∨(T = "tuple"∧∃o,K.lookup p=some o∧o.cls=.type "tuple"∧o.dict=none) ∨
   (T = "dict"∧((∃kvs,H p=some (.dK kvs))∨∃kvs,H p=some (.dT kvs)))∨(T = "set"∧∃S n,H p=some (.set S n))
 |_=>False
theorem tyV_is {pins:List (Addr×Obj)}{σ:St}{H:Hp}{s:Shared}{T:String}{x:V}{v:Value} (I:Inv X pins σ H s) (r:RelV x v) (ty:tyV X.K T x H) :
  s.TypeIs v T∧∀a,v=.ref a->∃ob,s.heap.get? a=some ob∧ob.dict=none:=by
 cases x with
 |str z=>
   obtain⟨t,rfl⟩:=r
   cases (show T = "str" from ty)
   exact⟨typeIs_str s z t,fun _ e=>nomatch e⟩
 |int i=>
   obtain⟨t,rfl⟩:=r
   cases (show T = "int" from ty)
   exact⟨typeIs_int s i t,fun _ e=>nomatch e⟩
 | ref p=>
   cases r
   rcases ty with ⟨rfl,xs,hq⟩ | ⟨rfl,o,hk,hc,hd⟩ | ⟨rfl,hk⟩ | ⟨rfl,S,n,hk⟩
   ·obtain⟨its,_,pl,_⟩:=I.list hq
    refine⟨pl.isList.typeIs,fun a e=>?_⟩
    cases e
    obtain⟨o,n,e,c,hd,_⟩:=pl
    exact⟨o,e,hd⟩
   ·refine⟨⟨o,I.kIn p o hk,hc⟩,fun a e=>?_⟩
    cases e
    exact⟨o,I.kIn _ o hk,hd⟩
   ·have z:∃ o,s.heap.get? p=some o∧o.ExactDict:=by
     rcases hk with ⟨kvs,hk⟩ | ⟨kvs,hk⟩
     ·obtain⟨_,_,_,_,o,_,_,e,ex,_⟩:=I.hok p _ hk
      exact⟨o,e,ex⟩
     ·obtain⟨_,_,_,_,o,_,_,e,ex,_⟩:=I.hok p _ hk
      exact⟨o,e,ex⟩
    obtain⟨o,e,ex⟩:=z
    refine⟨⟨o,e,ex.1⟩,fun a e2=>?_⟩
    cases e2
    exact⟨o,e,ex.2.1⟩
   ·obtain⟨o,_,_,_,e,ex,_⟩:=I.hok p _ hk
    refine⟨⟨o,e,ex.1⟩,fun a e2=>?_⟩
    cases e2
    exact⟨o,e,ex.2.1⟩
 |_=>exact False.elim ty
def tBM(K:PySem.W.Frag)(T:String)(r:V->List V->Hp->VK->Prop)(to:TE)(t:TA):TE:=fun σ H Q=>to σ H fun x H1=>tyV K T x H1∧t σ H1 fun xs H2=>r x xs H2 Q
variable{o e:Expr}{es:List Expr}{to:TE}{t:TA}{name:Str}{apos cpos:Pos}{T id:String}{r:V->List V->Hp->VK->Prop}
theorem pe_bm (pa:PlainAttrs T) (slot:Slot T name id) (hty:typeOf (.builtin id)=pure (.type "method_descriptor")) (hm:MtR X id r) (ho:PE X o to) (ha:PA X (e::es) t)
  (hbase:attributeBase o name X.env (eval o X.env)=eval o X.env:=by rfl)
  (hfew:((backTo cpos (starEach (e::es) X.env)).all (fun x=>!x.1)&&(backToKw cpos (keywordEach [] X.env)).all (fun x=>x.1.isSome)
   &&decide ((e::es).length+([]:List Keyword).length+(if ([]:List Keyword).isEmpty then 0 else 1)<30))=true:=by rfl)
  (hline:(apos.endLine==cpos.line)=true:=by rfl) (hs:starEach (e::es) X.env=(false,eval e X.env)::starEach es X.env:=by rfl) (hplain:(backTo cpos (starEach es X.env)).any (·.1)=false:=by rfl) :
  PE X (.Call (.Attribute o name apos) (e::es) [] cpos) (tBM X.K T r to t):=by
 intro pins s σ H Q I h
 refine wpAny_Call_method_late hbase hfew hline rfl (thn (ho pins s σ H _ I h) fun v s1 ⟨x,H1,I1,r1,ty,q1⟩=>?_)
 obtain⟨h1,h2⟩:=tyV_is I1 r1 ty
 refine⟨T,id,pa,slot,hty,h1,h2,?_⟩
 have hA:=ha cpos pins s1 σ H1 _ I1 q1
 rw[hs] at hA ⊢
 refine Calls.callWith_builtin (by show (false || (backTo cpos (starEach es X.env)).any (·.1))=false;rw[hplain]<;>rfl) (Calls.evalArgs_plain ?_)
 exact thn hA fun us s2 ⟨vs,H2,I2,r2,q2⟩=>hm pins s2 σ H2 x vs v us Q I2 r1 r2 q2
end
open PySem PySem.Spec PyProof.Rows
def MtM (X:Cx) (id:String) (r:V->List V->Hp->VK->Prop):Prop:=
 ∀(pins:List (Addr×Obj)) (s:Shared) (σ:St) (H:Hp) (x:V) (xs:List V) (v:Value) (us:List Value) (Q:VK),Inv X pins σ H s->RelV x v->Vals xs us->r x xs H Q->
   wpAny (model X.prog X.w) X.A (call (.builtin id) (v::us)) (EP X pins σ Q) X.xe s
theorem Vals.one:∀{x:V}{us:List Value},Vals [x] us->∃u,us=[u]∧RelV x u
 |_,_,.cons r .nil=>⟨_,rfl,r⟩
theorem Vals.eraseIdx:∀{xs:List V}{us:List Value} (i:Nat),Vals xs us->Vals (xs.eraseIdx i) (us.eraseIdx i)
 |_,_,_,.nil=>.nil
 |_,_,0,.cons _ t=>t
 |_,_,i+1,.cons r t=>.cons r (Vals.eraseIdx i t)
theorem Vals.rep {xs:List V}{us:List Value} (h:Vals xs us):∀ k:Nat,Vals (List.replicate k xs).flatten (List.replicate k us).flatten
 |0=>.nil
 |k+1=>by
   rw[List.replicate_succ,List.replicate_succ,List.flatten_cons,List.flatten_cons]
   exact Vals.append h (Vals.rep h k)
theorem len_erase{α:Type}:∀(l:List α) (i:Nat),(l.eraseIdx i).length≤l.length
 |[],_=>Nat.le_refl _
 |_::_,0=>Nat.le_succ _
 |_::r,i+1=>Nat.succ_le_succ (len_erase r i)
theorem foldl_rep (its:List Value):∀ (k:Nat) (acc:List Value),
  List.foldl (fun x1 x2=>x1++x2) acc.toArray (List.replicate k its.toArray)=(acc++(List.replicate k its).flatten).toArray
 |0,acc=>by simp
 | k + 1,acc=>by
   have e:acc.toArray++its.toArray=(acc++its).toArray:=by simp
   have e2:(acc++its)++(List.replicate k its).flatten=acc++(List.replicate (k+1) its).flatten:=by
    rw[List.replicate_succ,List.flatten_cons,List.append_assoc]
   rw[←e2,←foldl_rep its k (acc++its),←e,List.replicate_succ,List.foldl_cons]
section
variable{X:Cx}{pins:List (Addr×Obj)}{σ:St}{H:Hp}{s:Shared}{l b:Addr}{xs ys zs:List V}
theorem Inv.lset{its its':List Value}{n:Nat}{f:Array Value->Array Value}{t':Nat}(I:Inv X pins σ H s)(hH:H l=some (.lst xs))
  (e:s.heap.get? l=some { cls:=.type "list",data:=.seq its.toArray n }) (hf:f its.toArray=its'.toArray) (hv:Vals ys its') (hz:ys.length≤sizeLine) :
  Inv X pins σ (upd H l (.lst ys)) { s with heap:=s.heap.update l (Obj.mapSeq f),toks:=t' }:=by
 have q:=PySem.IsL.update e f
 rw[hf] at q
 refine I.write (x:=l) (e:=l) (by rw[hH];exact trivial) (.inl rfl) (fun b' u hb hu=>(Heap.get?_update_other s.heap (Obj.mapSeq f) (Ne.symm hb)).trans hu) ⟨_,q⟩ ?_
 exact⟨hz,its',_,hv,q⟩
theorem Inv.lnew{its:List Value}{t':Nat}(I:Inv X pins σ H s)(hv:Vals ys its)(hz:ys.length≤sizeLine) :
  Inv X pins σ (upd H s.heap.objs.size (.lst ys)) { s with heap:=s.heap.push { cls:=.type "list",data:=.seq its.toArray },toks:=t' }:=
 I.laid (fun _ _ q=>Heap.get?_push_of_some _ q) (Nat.le_refl _) ⟨hz,its,0,hv,Heap.get?_push_size _ rfl⟩
theorem Inv.fresh(I:Inv X pins σ H s):H s.heap.objs.size=none:=I.hok.fresh (Nat.le_refl _)
theorem Inv.lstM(I:Inv X pins σ H s)(hH:H l=some (.lst xs)):xs.length≤sizeLine∧∃(its:List Value) (n:Nat),Vals xs its∧xs.length=its.length∧s.heap.get? l=some { cls:=.type "list",data:=.seq its.toArray n }:=by
 obtain⟨z,its,n,r,e⟩:=I.hok l _ hH
 exact⟨z,its,n,r,r.length,e⟩
theorem notLongL{n:Nat}(h:n≤sizeLine):Builtin.List.listTooLong n=false:=by
 unfold Builtin.List.listTooLong
 exact decide_eq_false (by omega)
end
section
variable{X:Cx}
def rAppend:V->List V->Hp->VK->Prop:=fun x vs H Q=>∃l xs y,x=.ref l∧vs=[y]∧H l=some (.lst xs)∧xs.length<sizeLine∧Q .non (upd H l (.lst (xs++[y])))
theorem mt_append:MtM X "list.append" rAppend:=by
 intro pins s σ H x vs v us Q I rx rv h
 obtain⟨l,xs,y,rfl,rfl,hH,hz,q⟩:=h
 cases rx
 obtain⟨u,rfl,ru⟩:=rv.one
 obtain⟨z,its,n,r,hl,e⟩:=I.lstM hH
 refine call_meets F.slot_list_append ⟨_,e,rfl⟩ F.entry_list_append (F.args_list_append_2 _ _) (PySem.list_append l its.toArray n u (by rw[List.size_toArray];omega)) ⟨e,?_⟩
 refine⟨.non,_,I.lset (its':=its++[u]) hH e (by simp) (r.append (.cons ru .nil)) ?_,rfl,q⟩
 rw[List.length_append,List.length_singleton]
 omega
def rExtend:V->List V->Hp->VK->Prop:=fun x vs H Q=>∃l b xs zs,x=.ref l∧vs=[.ref b]∧H l=some (.lst xs)∧H b=some (.lst zs)∧xs.length+zs.length≤sizeLine∧Q .non (upd H l (.lst (xs++zs)))
theorem mt_extend:MtM X "list.extend" rExtend:=by
 intro pins s σ H x vs v us Q I rx rv h
 obtain⟨l,b,xs,zs,rfl,rfl,hH,hB,hz,q⟩:=h
 cases rx
 obtain⟨u,rfl,ru⟩:=rv.one
 cases ru
 obtain⟨z,its,n,r,hl,e⟩:=I.lstM hH
 obtain⟨z2,its2,n2,r2,hl2,e2⟩:=I.lstM hB
 have hsz:its.toArray.size+its2.toArray.size≤sizeLine:=by rw[List.size_toArray,List.size_toArray];omega
 have hlong:¬ (!its.toArray.isEmpty&&Builtin.List.listTooLong (its.toArray.size+its2.toArray.size))=true:=by
  rw[notLongL hsz,Bool.and_false]
  exact Bool.false_ne_true
 refine call_meets F.slot_list_extend ⟨_,e,rfl⟩ F.entry_list_extend (F.args_list_extend_2 _ _)
  (AutoSeq1.list_extend_list_list_0 l its.toArray n b its2.toArray n2 hlong (by rw[List.size_toArray];omega) (by omega)) ⟨e,e2,?_⟩
 refine⟨.non,_,I.lset (its':=its++its2) hH e (by simp) (r.append r2) ?_,rfl,q⟩
 rw[List.length_append]
 omega
def rPopAt:V->List V->Hp->VK->Prop:=fun x vs H Q=>∃l xs i k y,x=.ref l∧vs=[.int i]∧H l=some (.lst xs)∧-(2^63)≤i∧i<2^63∧seqIndex? i xs.length=some k∧xs[k]?=some y∧Q y (upd H l (.lst (xs.eraseIdx k)))
theorem mt_popAt:MtM X "list.pop" rPopAt:=by
 intro pins s σ H x vs v us Q I rx rv h
 obtain⟨l,xs,i,k,y,rfl,rfl,hH,h1,h2,hk,hy,q⟩:=h
 cases rx
 obtain⟨u,rfl,ru⟩:=rv.one
 obtain⟨t,rfl⟩:=ru
 obtain⟨z,its,n,r,hl,e⟩:=I.lstM hH
 obtain⟨w,hw,rw'⟩:=r.get hy
 refine call_meets F.slot_list_pop ⟨_,e,rfl⟩ F.entry_list_pop (F.args_list_pop_2 _ _)
  (MeetsSeq.list_pop_at l its.toArray n i t k w (fitsIndex_both h1 h2) (by rw[List.size_toArray,←hl];exact hk) (by rw[←Array.getElem?_toList];exact hw) (by rw[List.size_toArray];omega)) ⟨e,?_⟩
 refine⟨y,_,I.lset (its':=its.eraseIdx k) hH e ?_ (r.eraseIdx k) ?_,rw',q⟩
 ·show its.toArray.eraseIdxIfInBounds k=(its.eraseIdx k).toArray
  rw[List.eraseIdxIfInBounds_toArray]
 ·have:=len_erase xs k
  omega
def rCat:R2:=fun x y H Q=>∃l b xs zs,x=.ref l∧y=.ref b∧H l=some (.lst xs)∧H b=some (.lst zs)∧xs.length+zs.length≤sizeLine∧∀p,H p=none->Q (.ref p) (upd H p (.lst (xs++zs)))
theorem op_cat:OpR X (binaryOp .Add) rCat:=by
 intro pins s σ H x y v u Q I rx ry h
 obtain⟨l,b,xs,zs,rfl,rfl,hH,hB,hz,q⟩:=h
 cases rx
 cases ry
 obtain⟨z,its,n,r,hl,e⟩:=I.lstM hH
 obtain⟨z2,its2,n2,r2,hl2,e2⟩:=I.lstM hB
 refine PySem.P.add_list e e2 ?_ (by rw[List.size_toArray,List.size_toArray];omega)
 have ea:its.toArray++its2.toArray=(its++its2).toArray:=by simp
 rw[ea]
 exact⟨.ref _,_,I.lnew (t':=s.toks) (r.append r2) (by rw[List.length_append];omega),rfl,q _ I.fresh⟩
def rRep:R2:=fun x y H Q=>∃l k xs,x=.ref l∧y=.int k∧H l=some (.lst xs)∧-(2^63)≤k∧k<2^63∧xs.length*k.toNat≤sizeLine ∧
 ∀p,H p=none->Q (.ref p) (upd H p (.lst (List.replicate k.toNat xs).flatten))
theorem len_rep{α:Type}(xs:List α)(k:Nat):(List.replicate k xs).flatten.length=k*xs.length:=by
 induction k with
 |zero=>simp
 |succ k ih=>rw[List.replicate_succ,List.flatten_cons,List.length_append,ih,Nat.succ_mul,Nat.add_comm]
theorem op_rep:OpR X (binaryOp .Mult) rRep:=by
 intro pins s σ H x y v u Q I rx ry h
 obtain⟨l,k,xs,rfl,rfl,hH,h1,h2,hz,q⟩:=h
 cases rx
 obtain⟨t,rfl⟩:=ry
 obtain⟨z,its,n,r,hl,e⟩:=I.lstM hH
 have hlen:its.toArray.size*k.toNat≤sizeLine:=by rw[List.size_toArray,←hl];exact hz
 have hcap:¬ its.toArray.size*k.toNat > (2^63-1) / 8:=by
  have:(sizeLine:Nat)≤(2^63-1) / 8:=by decide
  omega
 have hfit:¬ (!Builtin.List.listFitsIndex k)=true:=by
  rw[fitsIndex_both h1 h2]
  exact Bool.false_ne_true
 have hlong:¬ Builtin.List.listTooLong (its.toArray.size*k.toNat)=true:=by
  rw[notLongL hlen]
  exact Bool.false_ne_true
 have hnew:List.foldl (fun x1 x2=>x1++x2) #[] (List.replicate (if its.toArray.isEmpty=true then 0 else k.toNat) its.toArray)=(List.replicate k.toNat its).flatten.toArray:=by
  have f0:∀m:Nat,List.foldl (fun x1 x2=>x1++x2) #[] (List.replicate m its.toArray)=(List.replicate m its).flatten.toArray:=fun m=>by
   have:=foldl_rep its m []
   rw[List.nil_append] at this
   exact this
  rw[f0]
  cases its with
  |nil=>simp
  |cons a r'=>rw[if_neg (by simp)]
 refine wpAny_binaryOp_repeat_ref (T := "list") (U := "int") (by decide) ⟨_,e,rfl⟩ (fun s'=>typeIs_int s' k t) noFill_list_mul F.fills_int_mul F.slot_int_rmul repeat_list F.slot_int_index.lookup
  (call_meets F.slot_int_rmul (typeIs_int s k t) F.entry_int_rmul (F.args_int_rmul_2 _ _) (int___rmul___int_list k t l its.toArray n)
    ⟨e,rfl,⟨_,e,rfl⟩,call_meets F.slot_list_mul ⟨_,e,rfl⟩ F.entry_list_mul (F.args_list_mul_2 _ _) (AutoListH.list___mul___list_int_3 l its.toArray n k t hfit hcap hlong) ⟨e,?_⟩⟩)
 rw[hnew]
 exact⟨.ref _,_,I.lnew (t':=s.toks) (r.rep k.toNat) (by rw[len_rep,Nat.mul_comm];exact hz),rfl,q _ I.fresh⟩
end
end L2
namespace Att
open PySem PySem.W PySem.Calls PyProof.Rows
theorem ints_of_wellAll {P:Params}{h:Heap}:∀ (ns:List Int) (vs:List Value),WellAll P h vs (ns.map WData.int)->IntsAre vs ns:=by
 intro ns
 induction ns with
 |nil=>
   intro vs w
   rw[List.map_nil] at w
   cases w
   exact .nil
 | cons n ns ih=>
   intro vs w
   rw[List.map_cons] at w
   cases w with
   |cons a b=>
     cases a
     exact .cons _ _ (ih _ b)
theorem script_of {l:OpenLaw}{n:Nat} (hn:l.most=some n) {P:Params}{h:Heap}{args:List WData}{vals:List Value}
  (hpre:l.row.toRowW.claim.pre args=true) (hwl:WellAll P h vals args) :
  ∃a vs ns,vals=[Value.ref a]∧args=[WData.list (ns.map WData.int)]∧h.get? a=some { cls:=.type "list",data:=.seq vs.toArray }∧IntsAre vs ns∧ns.length≤n:=by
 have hsh:WShape.hasAll [] args [.list .int]=true:=(pre_splitW hpre).1
 have hc:l.pre.holds [] { args:=args }=true:=(pre_splitW hpre).2
 obtain⟨d,r,rfl,h1,h2⟩:=hasAllW_cons hsh
 obtain rfl:=hasAllW_nil h2
 obtain⟨xs,rfl,h3⟩:=hasW_list h1
 obtain⟨ns,rfl⟩:=items_int h3
 have hlen:ns.length≤n:=by
  unfold OpenLaw.pre at hc
  have h4:(WTm.not (.lt (.lit (.int (n:Int))) (.len (.arg 0)))).holds [] { args:=[.list (ns.map .int)] }=true:=by
   have h4:=(holds_andW hc).1
   rw[hn] at h4
   exact h4
  have h5:=condW_of h4 (w_not (w_lt w_lit (w_len_list (w_arg rfl))))
  rw[List.length_map] at h5
  refine Nat.le_of_not_lt fun q=>?_
  have q':(n:Int)<((ns.length:Nat):Int):=by omega
  first
   |(rw[decide_eq_true q'] at h5;exact absurd h5 (by decide))
   |(simp at h5;omega)
 cases hwl with
 |cons w1 w2=>
   cases w2
   cases w1 with
   |list ho hall=>exact⟨_,_,ns,rfl,rfl,ho,ints_of_wellAll ns _ hall,hlen⟩
theorem post_true(l:OpenLaw)(args:List WData):l.row.toRowW.claim.post args (.bool true) args=true:=
 postW_of (r:=l.row.toRowW) (X:=(true==true))
  (show WShape.has [] (.bool true) .bool=true by first | rfl | decide | simp[WShape.has,WShape.arms,WShape.armsAll])
  (show (WTm.eq .res (.lit (.bool true))).value [] { args:=args,res:=some (.bool true),after:=args }=some (.bool (true==true)) from w_eq_bool (w_res rfl) w_lit) rfl
theorem attach_call {l:OpenLaw}{n:Nat}{q:Program}{loose:List Str}{XP:(Str->Option Value)->Heap->Prop}{YP:World->Heap->Prop}{d:DefRec}
  (hn:l.most=some n) (hdf:d.params.defaults=[])
  (call:∀(w:World) (s₀ s₁:Shared) (mg mb:Str->Option Value) (fa:Addr) (o:Obj) (pm cd doc:Value) (a:Addr) (vs:List Value) (ns:List Int),
    Ground q loose [] XP w s₀ mg mb s₁.heap->YP w s₁.heap->
    s₁.heap.get? fa=some o->o.data=.func (docDef d.name d.params d.body d.scope pm cd doc)->s₁.heap.CodeRec cd d.name->mg d.name=some (.ref fa)->
    s₁.heap.get? a=some { cls:=.type "list",data:=.seq vs.toArray }->IntsAre vs ns->ns.length≤n->s₁.gens=#[]->
    codeAny (model l.prog w) callerA (.call (.ref fa) ⟨[.ref a],[]⟩) (fun r s'=>r=.ok (.ret (.bool true))∧OldK s₁.heap s'.heap∧s'.os=s₁.os∧AllBare s'.gens) s₁) :
  WalkO q loose XP YP l.row.toRowW d [] (fun f vs=>PySem.call f vs):=by
 intro w s₀ s₁ mg mb G Y fa o pm cd doc dV kV ho hd hcd hD hmg hg args vals as hpre hlay hrd hwl hlo
 obtain rfl:dV=.none:=Dflts.none hD hdf
 obtain rfl:kV=.none:=Dflts.noKw hD
 obtain⟨a,vs,ns,rfl,rfl,hobj,hints,hlen⟩:=script_of hn hpre hwl
 refine enter_call (codeAny_mono (call w s₀ s₁ mg mb fa o pm cd doc a vs ns G Y ho (fd_plain hd) hcd hmg hobj hints hlen hg) fun r s' hq=>?_)
 obtain⟨rfl,h2,h3,h4⟩:=hq
 exact⟨.inl ⟨.bool true,.bool true,[],rfl,fun _=>rfl,.bool true,post_true l _,fun _=>⟨List.Pairwise.nil,fun _ hm=>(nomatch hm)⟩⟩,h2,h3,h4⟩
end Att
namespace L2
open PySem PySem.Spec PyProof.Rows
theorem vals_ints:∀{vs:List Value}{ns:List Int},IntsAre vs ns->Vals (ns.map V.int) vs
 |_,_,.nil=>.nil
 |_,_,.cons n t h=>.cons ⟨t,rfl⟩ (vals_ints h)
def Only(H:Hp):Prop:=∀b,H b=none∨∃o xs,H b=some (.frz o (.lst xs))
theorem law_call {P:Program}{w:World}{K:PySem.W.Frag}{mg mb:Str->Option Value}{CX:CXT}{k:Nat}{fa a:Addr}{fd:FuncData}{x:Str}{sp:Sp}{s₁:Shared}{vs:List Value}{ns:List Int}
  (KX:K.In s₁.heap) (hns:s₁.heap.Ns mainGlobals mg) (hb:s₁.heap.Ns builtinsNs mb) (hbb:∀x:Str,x≠"__name__"->mb x=bootBuiltins x) (hlim:s₁.heap.NoLimit) (hg:s₁.gens=#[])
  (ha:s₁.heap.get? a=some { cls:=.type "list",data:=.seq vs.toArray }) (hi:IntsAre vs ns) (hl:ns.length≤sizeLine) (hr:Room k callerA)
  (F:∀base:Heap,K.In base->base.Ns mainGlobals mg->FnOk P w K mg base CX k fa fd [x] sp) (hbind:∀(s:Shared) (u:Value),BindsTo s fd ⟨[u],[]⟩ [(x,u)])
  (hsp:∀H:Hp,Only H->SqL K H a (ns.map V.int)->sp [.ref a] H (fun v _=>v=.bl true) fun _ _ _=>False)
  (hCX:∀H e s',CX [] H s₁ (fun _ _ _=>False) e s'->False) :
  codeAny (model P w) callerA (.call (.ref fa) ⟨[.ref a],[]⟩) (fun r s'=>r=.ok (.ret (.bool true))∧OldK s₁.heap s'.heap∧s'.os=s₁.os∧AllBare s'.gens) s₁:=by
 have rv:=vals_ints hi
 have lenV:=hi.length
 -- from an abstract heap in which nothing but the script may be tracked
 have core:∀ H:Hp,Only H->SqL K H a (ns.map V.int)->HOk P w H s₁.heap->(∀ b,H b≠none->b=a)->(H a≠none->K.lookup a=none)->
   codeAny (model P w) callerA (.call (.ref fa) ⟨[.ref a],[]⟩) (fun r s'=>r=.ok (.ret (.bool true))∧OldK s₁.heap s'.heap∧s'.os=s₁.os∧AllBare s'.gens) s₁:=by
  intro H hO hS hok hA hK
  have base_of:∀{b:Addr}{o:Obj},s₁.heap.get? b=some o->H b=none->(hidT s₁.heap H).get? b=some o:=fun e n=>hidT_get e n
  have noA:∀ {b:Addr}{o:Obj}{es:Array DictEntry}{ep:Nat},s₁.heap.get? b=some o->o.data=.dict es ep->H b=none:=fun {b o es ep} e d=>by
   cases q:H b with
   |none=>rfl
   |some u=>
     have e':b=a:=hA b (by rw[q];simp)
     subst e'
     rw[ha] at e;cases e
     have d':Data.seq vs.toArray _=Data.dict es ep:=d
     cases d'
  have nsK:∀{b:Addr}{m:Str->Option Value},s₁.heap.Ns b m->(hidT s₁.heap H).Ns b m:=fun {b m} ⟨o,es,ep,e,d,r⟩=>⟨o,es,ep,base_of e (noA e d),d,r⟩
  have hKb:K.In (hidT s₁.heap H):=fun b o e=>base_of (KX b o e) (by
   cases q:H b with
   |none=>rfl
   |some u=>
     have e':b=a:=hA b (by rw[q];simp)
     subst e'
     rw[hK (by rw[q];simp)] at e;cases e)
  have hM:Mod K mg (hidT s₁.heap H):=⟨hKb,nsK hns,⟨mb,nsK hb,hbb⟩,let ⟨mc,h1,h2⟩:=hlim;⟨mc,nsK h1,h2⟩⟩
  have e0:Env0 P w K mg (hidT s₁.heap H) callerA [] s₁ H:=⟨rfl,hM,fun b o e=>of_hidT e,Nat.le_of_eq (hidT_size _ _),trivial,fun b hb=>absurd (show b∈([]:List Addr) from hb) (by simp),hok,.of_eq hg⟩
  refine codeAny_mono ((F _ hKb (nsK hns)).run callerA [] s₁ H ⟨[.ref a],[]⟩ [.ref a] [.ref a] _ _ hr e0 (hbind s₁ (.ref a)) (.cons rfl .nil) (hsp H hO hS)) fun r s' h=>?_
  cases r with
  |error e=>exact (hCX H e s' h).elim
  | ok fl=>
    cases fl with
    |next=>exact False.elim h
    |brk=>exact False.elim h
    |cont=>exact False.elim h
    | ret u=>
      obtain⟨v,H',os,bare,un,hok',r',q⟩:=h
      have q':v=.bl true:=q
      subst q'
      obtain rfl:u=Value.bool true:=r'
      refine⟨rfl,OldK.of_keep fun b o e=>?_,os,bare⟩
      cases q:H b with
      |none=>exact un.keep b o e q (by intro z;exact absurd (show b∈([]:List Addr) from z) (by simp)) (by simp)
      | some u=>
        rcases hO b with z | ⟨ob,xs,z⟩
        ·rw[q] at z;cases z
        ·have z2:=un.frzs b ob _ z
         obtain⟨e1,_⟩:=hok b _ z
         obtain⟨e2,_⟩:=hok' b _ z2
         rw[e] at e1;cases e1
         exact e2
 cases hk:K.lookup a with
 |some o=>
   -- the script is one of the module's own objects
   have e:=KX a o hk
   rw[ha] at e
   cases e
   refine core (fun _=>none) (fun _=>.inl rfl) (.inr ⟨_,vs.toArray,_,hk,rfl,rfl,rfl,by rw[List.size_toArray,lenV];exact hl,by simpa using rv⟩) (fun b u z=>by have z':(none:Option HO)=some u:=z;cases z') (fun b z=>absurd rfl z) fun z=>absurd rfl z
 | none=>
   refine core (fun b=>if b=a then some (.frz { cls:=.type "list",data:=.seq vs.toArray } (.lst (ns.map V.int))) else none) (fun b=>?_) (.inl (.inr ⟨{ cls:=.type "list",data:=.seq vs.toArray },if_pos rfl⟩)) (fun b u z=>?_) (fun b z=>?_) fun _=>hk
   ·by_cases hb:b=a
    ·exact .inr ⟨_,_,if_pos hb⟩
    ·exact .inl (if_neg hb)
   ·by_cases hb:b=a
    ·have z':=(if_pos hb).symm.trans z
     cases z'
     subst hb
     exact⟨ha,by rw[List.length_map];exact hl,vs,_,rv,ha⟩
    ·have z':=(if_neg hb).symm.trans z
     cases z'
   ·by_cases hb:b=a
    ·exact hb
    ·exact absurd (if_neg hb) z
open PySem PySem.Spec PyProof.Rows
theorem walk_of {l:PySem.W.OpenLaw}{n k:Nat}{q:Program}{loose:List Str}{XP:(Str->Option Value)->Heap->Prop}{YP:World->Heap->Prop}{d:DefRec}{K:Params->PySem.W.Frag}{CX:World->CXT}{sp:World->Sp}{x:Str}
  (hn:l.most=some n) (hn2:n≤sizeLine) (hdf:d.params.defaults=[]) (hr:Room k callerA)
  (hY:∀(w:World) (h:Heap),YP w h->(K w.params).In h)
  (F:∀ (w:World) (mg:Str->Option Value) (fa:Addr) (h:Heap),(K w.params).In h->h.Ns mainGlobals mg->mg d.name=some (.ref fa)->
    ∃fd:FuncData,(∀(s:Shared) (u:Value),BindsTo s fd ⟨[u],[]⟩ [(x,u)]) ∧
      ∀base:Heap,(K w.params).In base->base.Ns mainGlobals mg->FnOk l.prog w (K w.params) mg base (CX w) k fa fd [x] (sp w))
  (hsp:∀(w:World) (H:Hp) (a:Addr) (ns:List Int),ns.length≤n->Only H->SqL (K w.params) H a (ns.map V.int)->sp w [.ref a] H (fun v _=>v=.bl true) fun _ _ _=>False)
  (hCX:∀(w:World) (H:Hp) (s:Shared) (e:Value) (s':Shared),CX w [] H s (fun _ _ _=>False) e s'->False) :
  PySem.W.WalkO q loose XP YP l.row.toRowW d [] (fun f vs=>PySem.call f vs):=by
 refine Att.attach_call hn hdf fun w s₀ s₁ mg mb fa o pm cd doc a vs ns G Y ho hd hcd hmg hobj hints hlen hg=>?_
 have KX:=hY w _ Y
 obtain⟨fd,hb,hF⟩:=F w mg fa _ KX G.T.g hmg
 exact law_call KX G.T.g G.T.b G.T.builtins G.T.nolimit hg hobj hints (Nat.le_trans hlen hn2) hr hF hb (fun H hO hS=>hsp w H a ns hlen hO hS) fun H e s'=>hCX w H s₁ e s'
open PySem PySem.Spec PyProof.Rows
def inClass(s:Stmt)(j:Nat):Stmt:=match s with
 |.ClassDef _ _ _ body _ _ _ _ _ _ _=>body.getD j (.Pass ⟨0,0,0,0⟩)
 |_=>.Pass ⟨0,0,0,0⟩
def defArgs(s:Stmt):Arguments:=match s with
 |.FunctionDef _ a _ _ _ _ _ _ _ _=>a
 |_=>{ posonlyargs:=[],args:=[],vararg:=none,kwonlyargs:=[],kw_defaults:=[],kwarg:=none,defaults:=[] }
def defBody(s:Stmt):List Stmt:=match s with
 |.FunctionDef _ _ b _ _ _ _ _ _ _=>b
 |_=>[]
def defScope(s:Stmt):Scope:=match s with
 |.FunctionDef _ _ _ _ _ _ sc _ _ _=>sc
 |_=>{ kind:=.function,names:=[],isGenerator:=false,isCoroutine:=false }
abbrev E0:XK:=fun _ _ _=>False
structure Fun(K:PySem.W.Frag)(x qual:Str)(st:Stmt)(f:Addr)(fd:FuncData):Prop where
 ex:∃(oc:Value) (od:Option Addr) (kV doc pm:Value) (an:Option Addr) (cdv ct:Value) (osl:Array (Option Value)),
  fd=PySem.W.fnOf x qual (defArgs st) (defBody st) (defScope st) .none kV doc pm an cdv ct∧K.lookup f=some ⟨oc,od,.func fd,osl⟩∧PySem.W.codeIn K cdv qual=true
 kp:PySem.W.keepIn K (.ref f)=true
section
variable{P:Program}{w:World}{K:PySem.W.Frag}{mg:Str->Option Value}{base:Heap}
theorem Fun.binds{x qual:Str}{st:Stmt}{f:Addr}{fd:FuncData}{ps:List Str}(F:Fun K x qual st f fd)
  (h:∀(kV doc pm:Value) (an:Option Addr) (cdv ct:Value) (us:List Value),us.length=ps.length->bindArgs (PySem.W.fnOf x qual (defArgs st) (defBody st) (defScope st) .none kV doc pm an cdv ct) ⟨us,[]⟩=pure (ps.zip us)):Binds K fd ps []:=by
 obtain⟨oc,od,kV,doc,pm,an,cdv,ct,osl,rfl,lk,hcd⟩:=F.ex
 exact .all (h kV doc pm an cdv ct)
theorem fun_mk{x qual:Str}{st:Stmt}{f:Addr}{oc:Value}{od an:Option Addr}{osl:Array (Option Value)}{kV doc pm cdv ct:Value}(l:K.lookup f=some ⟨oc,od,.func (PySem.W.fnOf x qual (defArgs st) (defBody st) (defScope st) .none kV doc pm an cdv ct),osl⟩)
  (c:PySem.W.codeIn K cdv qual=true) (k:PySem.W.keepIn K (.ref f)=true):Fun K x qual st f (PySem.W.fnOf x qual (defArgs st) (defBody st) (defScope st) .none kV doc pm an cdv ct):=⟨⟨oc,od,kV,doc,pm,an,cdv,ct,osl,rfl,l,c⟩,k⟩
end
theorem iteF{A B:Prop}(h:B):if false=true then A else B:=by
 rw[if_neg Bool.false_ne_true]
 exact h
theorem iteT{A B:Prop}(h:A):if true=true then A else B:=by
 rw[if_pos rfl]
 exact h
def Same(H H':Hp):Prop:=∀b o,H b=some o->H' b=some o
theorem Same.refl(H:Hp):Same H H:=fun _ _ h=>h
mutual
inductive Rep(K:PySem.W.Frag)(H:Hp):V->PyData->Prop
 |non:Rep K H .non .none
 |bl (b:Bool):Rep K H (.bl b) (.bool b)
 |int (i:Int):Rep K H (.int i) (.int i)
 |str (x:Str):Rep K H (.str x) (.str x)
 |lst {a:Addr}{xs:List V}{ds:List PyData}:SqL K H a xs->Reps K H xs ds->Rep K H (.ref a) (.list ds)
 |tup {a:Addr}{xs:List V}{ds:List PyData}:SqT K H a xs->Reps K H xs ds->Rep K H (.ref a) (.tuple ds)
inductive Reps(K:PySem.W.Frag)(H:Hp):List V->List PyData->Prop
 |nil:Reps K H [] []
 |cons {v:V}{d:PyData}{vs:List V}{ds:List PyData}:Rep K H v d->Reps K H vs ds->Reps K H (v::vs) (d::ds)
end
section
variable{X:Cx}{pins:List (Addr×Obj)}{σ:St}{H:Hp}{s:Shared}
mutual
theorem Rep.reads (I:Inv X pins σ H s):∀ {v:V}{d:PyData}{u:Value},Rep X.K H v d->RelV v u->∃ as,Reads s.heap u d as
 |_,_,_,.non,r=>by cases r;exact⟨_,.none⟩
 |_,_,_,.bl b,r=>by cases r;exact⟨_,.bool b⟩
 |_,_,_,.int i,r=>by obtain⟨t,rfl⟩:=r;exact⟨_,.int i t⟩
 |_,_,_,.str x,r=>by obtain⟨t,rfl⟩:=r;exact⟨_,.str x t⟩
 |_,_,_,.lst h hs,r=>by
   cases r
   obtain⟨its,rv,⟨o,n,h1,h2,_,h3⟩,_⟩:=I.list h
   obtain⟨as,ra⟩:=Reps.reads I hs rv
   exact⟨_,.list h1 h2 h3 ra⟩
 |_,_,_,.tup h hs,r=>by
   cases r
   obtain⟨its,rv,⟨o,h1,h2,n,h3⟩,_⟩:=I.tuple h
   obtain⟨as,ra⟩:=Reps.reads I hs rv
   exact⟨_,.tuple h1 h2 h3 ra⟩
theorem Reps.reads (I:Inv X pins σ H s):∀ {vs:List V}{ds:List PyData}{us:List Value},Reps X.K H vs ds->Vals vs us->∃ as,ReadsAll s.heap us ds as
 |_,_,_,.nil,r=>by cases r;exact⟨_,.nil⟩
 | _,_,_,.cons h hs,r=>by
   cases r with
   |cons r1 r2=>
     obtain⟨a1,e1⟩:=Rep.reads I h r1
     obtain⟨a2,e2⟩:=Reps.reads I hs r2
     exact⟨_,.cons e1 e2⟩
end
end
theorem same_new{H:Hp}{p:Addr}(h:H p=none)(o:HO):Same H (upd H p o):=fun b u q=>by rw[upd_ne (ne_of_none q h)];exact q
section
variable{X:Cx}
def zR(K:PySem.W.Frag)(neg:Bool):R2:=fun x y H Q=>∃da db,Rep K H x da∧Rep K H y db∧da.canLay0=true∧db.canLay0=true∧da.depth≤60∧Q (.bl (if neg then !PyData.eqv da db else PyData.eqv da db)) H
theorem Dz(hu:X.A.units+64<cLine):OpR X (compareOp .Eq) (zR X.K false):=by
 intro pins s σ H x y v u Q I rx ry h
 obtain⟨da,db,ha,hb,la,lb,hd,q⟩:=h
 obtain⟨as,ra⟩:=ha.reads I rx
 obtain⟨bs,rb⟩:=hb.reads I ry
 exact PySem.SeqAt.compareEq_reads ra rb la lb (by omega) ⟨.bl _,H,I,rfl,q⟩
theorem DN(hu:X.A.units+64<cLine):OpR X (compareOp .NotEq) (zR X.K true):=by
 intro pins s σ H x y v u Q I rx ry h
 obtain⟨da,db,ha,hb,la,lb,hd,q⟩:=h
 obtain⟨as,ra⟩:=ha.reads I rx
 obtain⟨bs,rb⟩:=hb.reads I ry
 exact PySem.SeqAt.compareNe_reads ra rb la lb (by omega) ⟨.bl _,H,I,rfl,q⟩
def Fq(i j:Int):Prop:=IntMulOk i j
theorem Bu:OpR X (binaryOp .Mult) (rI Fq fun i j=>.int (i*j)):=opI fun _ _ _ _ _ _ _ hc q=>mul_int q hc
theorem yS:CallR X (.builtin "isinstance") (fun xs H Q=>∃x t c b,xs=[x,.ty c]∧TyOf X.K H x t∧PySem.W.kitOne X.K t (.type c)=some b∧Q (.bl b) H):=by
 intro pins s σ H xs us Q I r h
 obtain⟨x,t,c,b,rfl,ty,e,q⟩:=h
 obtain⟨u,w',rfl,r1,r2⟩:=vals2 r
 cases r2
 exact isinst_ok I r1 ty e fun tk=>⟨.bl b,H,I.tok _,rfl,q⟩
end
open PySem PySem.Spec PyProof.Rows
structure DefAt(K:PySem.W.Frag)(mg:Str->Option Value)(x:Str)(st:Stmt):Prop where
 ex:∃f fd,Fun K x x st f fd∧mg x=some (.ref f)
theorem zg{K:PySem.W.Frag}{h:Heap}{mg:Str->Option Value}{x:Str}{st:Stmt}{f:Addr}{oc:Value}{od an:Option Addr}{osl:Array (Option Value)}{kV doc pm cdv ct:Value}(X:K.In h)(G:h.Ns mainGlobals mg)
  (a:PySem.W.nsIn K mainGlobals x=some (some (.ref f))) (l:K.lookup f=some ⟨oc,od,.func (PySem.W.fnOf x x (defArgs st) (defBody st) (defScope st) .none kV doc pm an cdv ct),osl⟩) (c:PySem.W.codeIn K cdv x=true) (k:PySem.W.keepIn K (.ref f)=true):DefAt K mg x st:=
 ⟨f,_,fun_mk l c k,PySem.W.mg_of X G a⟩
section
variable{X:Cx}{j k:Nat}{ps:List Str}{sp:Sp}{x:Str}{p pos:Pos}{e:Expr}{es:List Expr}{t:TA}
theorem Hm{id:String}{r:List V->Hp->VK->Prop}(hc:CallR X (.builtin id) r)(hm:X.mg x=none)(ha:PA X (e::es) t)(hg:Gl X x:=by rfl)(hv:bootBuiltins x=some (.builtin id):=by decide +kernel)(hn:x≠"__name__":=by decide)(hdb:(x==("__debug__":Str))=false:=by decide)
  (he:starEach (e::es) X.env=(false,eval e X.env)::starEach es X.env:=by rfl) (hpl:(backTo pos (starEach es X.env)).any (·.1)=false:=by rfl) :
  PE X (.Call (.Name x p) (e::es) [] pos) (tCB r t):=pe_callB hc hg hm hv ha hn hdb he hpl
theorem Gf{T:String}(hm:X.mg x=none)(hg:Gl X x:=by rfl)(hv:bootBuiltins x=some (.type T):=by decide +kernel)(hn:x≠"__name__":=by decide)(hdb:(x==("__debug__":Str))=false:=by decide):PE X (.Name x pos) (tC (.ty T)):=
 pe_bltn hg hm hv rfl hn hdb
end
end L2
namespace L2
open PySem PySem.Spec PyProof.Rows
open PySem PySem.Spec PyProof.Rows
theorem ObjOk.there{P:Program}{w:World}{H:Hp}{h:Heap}{a:Addr}{o:HO}(x:ObjOk P w H h a o):∃u,h.get? a=some u:=by
 induction o with
 |lst xs=>obtain⟨_,_,_,_,e⟩:=x;exact⟨_,e⟩
 |tup xs=>obtain⟨_,_,_,o,e,_⟩:=x;exact⟨_,e⟩
 |dK kvs=>obtain⟨_,_,_,_,o,_,_,e,_⟩:=x;exact⟨_,e⟩
 |dT kvs=>obtain⟨_,_,_,_,o,_,_,e,_⟩:=x;exact⟨_,e⟩
 |set S n=>obtain⟨o,_,_,_,e,_⟩:=x;exact⟨_,e⟩
 |ins C dx fs=>obtain⟨_,_,_,e,_⟩:=x;exact⟨_,e⟩
 |own y=>exact x
 |xd fs=>obtain⟨_,⟨o,es,ep,e,_⟩,_⟩:=x;first | exact⟨_,e⟩ | exact⟨o,es⟩
 |met g y=>exact⟨_,x⟩
 |rng lo hi=>obtain⟨_,_,_,e⟩:=x;exact⟨_,e⟩
 |frz o u ih=>exact⟨_,x.1⟩
 |tbl ps=>exact⟨_,x⟩
 |ext φ=>exact x.2.1
end L2
namespace L2
open PySem PySem.Spec PyProof.Rows
def cM (P:Program) (w:World):CXT:=fun outer H s E e s'=>
 ∃(x:Addr) (C a0:Value) (H':Hp) (B:Heap),e=.ref x∧s'.os=s.os∧AllBare s'.gens∧Un (frs outer) [] H H' s.heap s'.heap∧HOk P w H' s'.heap∧Heap.FlyingW B outer x C a0 s'.heap ∧
   (∀b,H' b≠none->∃o,B.get? b=some o)∧(∀b o,s.heap.get? b=some o->b∉frs outer->∃o',B.get? b=some o')∧E C none H'
theorem sJ{env:Env}{l:List Env}{L:Addr}(h:env.frame=some L):frs (env::l)=L::frs l:=by
 unfold frs;rw[List.filterMap_cons,h]
theorem qC {fs:List Addr}{H H':Hp}{h0 h h' B:Heap} (u:Un fs [] H H' h0 h) (hB:B.StaysIn h) (hB':B.StaysIn h') (up:h.UpToSlots h')
  (fr:∀b∈fs,∃o,h.get? b=some o∧∀vs,o.data≠.fields vs) (cov:∀b o,h0.get? b=some o->b∉fs->∃o',B.get? b=some o'):Un fs [] H H' h0 h' where
 keep b o e n hb hx:=by
  have h1:=u.keep b o e n hb hx
  obtain⟨o',e'⟩:=cov b o e hb
  have h2:=hB b o' e'
  rw[h1] at h2;cases h2
  exact hB' b o e'
 slot b o e n hb hx:=by
  obtain⟨sl,h1⟩:=u.slot b o e n hb hx
  obtain⟨o1,h2,nf⟩:=fr b hb
  rw[h1] at h2;cases h2
  obtain⟨sl2,h3⟩:=up b _ h1 nf
  exact⟨sl2,h3⟩
 free:=u.free
 there b o e hx:=by
  by_cases hb:b∈fs
  ·obtain⟨o1,h2,nf⟩:=fr b hb
   obtain⟨sl2,h3⟩:=up b _ h2 nf
   exact⟨_,h3⟩
  ·obtain⟨o',e'⟩:=cov b o e hb
   exact⟨o',hB' b o' e'⟩
 tups:=u.tups
 frzs:=u.frzs
 tbls:=u.tbls
theorem nP {P:Program}{w:World}{H':Hp}{h h' B:Heap} (ok:HOk P w H' h) (hB:B.StaysIn h) (hB':B.StaysIn h') (cov:∀ b,H' b≠none->∃ o,B.get? b=some o):HOk P w H' h':=fun a o e=>
 (ok a o e).stay (fun b u hb hu=>by
   have hn:H' b≠none:=by
    rcases hb with rfl | hb
    ·rw[e];simp
    ·rw[hb];simp
   obtain⟨o',e'⟩:=cov b hn
   have:=hB b o' e'
   rw[hu] at this;cases this
   exact hB' b u e') (fun _ h=>h) (fun _ _ h=>h)
section
variable{P:Program}{w:World}{K:PySem.W.Frag}{mg:Str->Option Value}{base:Heap}{N:List Str}{qual:Str}{scope:Scope}{f:Addr}{cd:Value}{A:Around}{outer:List Env}{s:Shared}{H:Hp}{E:XK}
abbrev bK(P:Program)(w:World)(K:PySem.W.Frag)(mg:Str->Option Value)(base:Heap)(N:List Str)(qual:Str)(scope:Scope)(f:Addr)(cd:Value)(A:Around)(outer:List Env)(s:Shared)(H:Hp)(E:XK):Cx:=
 cxOf (cM P w) P w K mg base N qual scope f cd A outer s H E
theorem aO:Passes (cM P w) (bK P w K mg base N qual scope f cd A outer s H E) E:=by
 intro pins σ H1 s1 e s' I hf
 obtain⟨x,C,a0,H',B,rfl,os,bare,un,hok,fl,ci,cii,q⟩:=hf
 have J:Inv (bK P w K mg base N qual scope f cd A outer s H E) pins σ H' s':=I.call' (ch:=[]) os un hok bare (fun b z=>absurd z (by simp))
 have hfr:(bK P w K mg base N qual scope f cd A outer s H E).A.frames=some ((bK P w K mg base N qual scope f cd A outer s H E).env::outer):=I.ok.frames
 have hfs:∀b∈frs outer,∃o,s'.heap.get? b=some o∧∀vs,o.data≠.fields vs:=fun b hb=>(fl.2.2.1.2.2.mem hb).2
 have hfrm:(bK P w K mg base N qual scope f cd A outer s H E).env.frame=some (bK P w K mg base N qual scope f cd A outer s H E).env.locals:=rfl
 have cov:∀b o,s.heap.get? b=some o->b∉frs outer->∃o',B.get? b=some o':=fun b o e hb=>by
  obtain⟨o1,h1⟩:=I.base.there b o e (show b∉([]:List Addr) by simp)
  refine cii b o1 h1 ?_
  show b∉frs ((bK P w K mg base N qual scope f cd A outer s H E).env::outer)
  rw[sJ hfrm]
  intro hm
  rcases List.mem_cons.mp hm with rfl | hm
  ·exact absurd (Heap.lt_size e) (Nat.not_lt.mpr I.ok.above)
  ·exact hb hm
 show wpAny _ _ (leaving _ (.ref x)) _ _ s'
 refine wpAny_leaves_onW hfr rfl fl fun h' fl' up=>?_
 exact⟨x,C,a0,H',B,rfl,J.os,bare,qC J.base fl.1 fl'.1 up hfs cov,nP hok fl.1 fl'.1 ci,fl',ci,cov,q⟩
theorem Et {pins:List (Addr×Obj)}{σ:St}{H1:Hp}{s1:Shared}{h1:Heap}{e:Addr}{C:Value}{args:List Value} (I:Inv (bK P w K mg base N qual scope f cd A outer s H E) pins σ H1 s1)
  (hx:Heap.MadeExcOf s1.heap h1 e C args) (q:E C none H1):(bK P w K mg base N qual scope f cd A outer s H E).xe (.ref e) { s1 with heap:=h1 }:=by
 have hfr:(bK P w K mg base N qual scope f cd A outer s H E).A.frames=some ((bK P w K mg base N qual scope f cd A outer s H E).env::outer):=I.ok.frames
 have hfrm:(bK P w K mg base N qual scope f cd A outer s H E).env.frame=some (bK P w K mg base N qual scope f cd A outer s H E).env.locals:=rfl
 have ff:s1.heap.FunFrames base ((bK P w K mg base N qual scope f cd A outer s H E).env::outer):=I.stack
 have hin:∀env∈((bK P w K mg base N qual scope f cd A outer s H E).env::outer),∀b,env.frame=some b->b∈frs ((bK P w K mg base N qual scope f cd A outer s H E).env::outer):=fun env he b hb=>List.mem_filterMap.mpr ⟨env,he,hb⟩
 have hst:(PySem.W.hideAll s1.heap (frs ((bK P w K mg base N qual scope f cd A outer s H E).env::outer))).StaysIn s1.heap:=fun b o q=>PySem.W.of_hideAll _ q
 have cov:∀b o,s.heap.get? b=some o->b∉frs outer->∃o',(PySem.W.hideAll s1.heap (frs ((bK P w K mg base N qual scope f cd A outer s H E).env::outer))).get? b=some o':=fun b o e hb=>by
  obtain⟨o1,h1⟩:=I.base.there b o e (show b∉([]:List Addr) by simp)
  refine⟨o1,PySem.W.hideAll_get _ h1 ?_⟩
  rw[sJ hfrm]
  intro hm
  rcases List.mem_cons.mp hm with rfl | hm
  ·exact absurd (Heap.lt_size e) (Nat.not_lt.mpr I.ok.above)
  ·exact hb hm
 have ci:∀ b,H1 b≠none->∃ o,(PySem.W.hideAll s1.heap (frs ((bK P w K mg base N qual scope f cd A outer s H E).env::outer))).get? b=some o:=fun b hb=>by
  cases hb':H1 b with
  |none=>exact absurd hb' hb
  |some o=>
    have lt:=I.hok.lt hb'
    have ex:∃o',s1.heap.get? b=some o':=(I.hok b o hb').there
    obtain⟨o',ho'⟩:=ex
    refine⟨o',PySem.W.hideAll_get _ ho' fun hm=>?_⟩
    have:=I.stkFree b hm
    rw[hb'] at this;cases this
 have hfs:∀b∈frs outer,∃o,h1.get? b=some o∧∀vs,o.data≠.fields vs:=fun b hb=>by
  obtain⟨_,o,ho,nf⟩:=ff.2.2.mem hb
  exact⟨o,hx.keeps _ _ ho,nf⟩
 have I1:Inv (bK P w K mg base N qual scope f cd A outer s H E) pins σ H1 { s1 with heap:=h1 }:=I.kept (t':=s1.toks) hx.keeps
 show wpAny _ _ (leaving _ (.ref e)) _ _ _
 refine wpAny_leaves_madeW hfr rfl hst (PySem.W.funFrames_hide ff hin) hx fun h' t fl' _ _ up=>?_
 exact⟨e,C,.ref t,H1,_,rfl,I1.os,I1.bare,qC I1.base (fun b o e=>hx.keeps _ _ (hst _ _ e)) fl'.1 up hfs cov,nP I1.hok (fun b o e=>hx.keeps _ _ (hst _ _ e)) fl'.1 ci,fl',ci,cov,q⟩
end
abbrev lX:List Value:=[.type "ValueError",.type "Exception",.type "BaseException",.type "object"]
theorem qg {K:PySem.W.Frag}{h:Heap}{mg:Str->Option Value}{x:Str}{C:Addr}{bmB:List Value}{newId:String} (X:K.In h) (m:mg x=some (.ref C)) (q:PySem.W.excIn K C bmB newId=true):OwnCls x C bmB newId mg h:=by
 refine⟨m,?_⟩
 unfold PySem.W.excIn at q
 split at q
 ·rename_i dd cd sl hobj
  split at q
  ·rename_i C' tl a0 a1 a2 a3 n a5 hmro hslot
   (simp only[Bool.not_eq_true',Bool.and_eq_true,beq_iff_eq] at q)
   obtain⟨⟨⟨⟨⟨rfl,rfl⟩,hnd⟩,ht⟩,hns⟩,hin⟩:=q
   obtain⟨c1,c2,c3,c4,c5,c6,c7,c8,c9,c10,c11⟩:=cd
   dsimp only at hmro hnd hns hin
   subst hmro hnd
   have hslv:sl=#[a0,a1,a2,a3,some (.builtin n),a5]:=by
    obtain⟨l⟩:=sl
    simp only at hslot
    rw[hslot]
   subst hslv
   exact⟨tl,c4,c1,c5,c2,c6,c7,c8,c9,c10,dd,a0,a1,a2,a3,a5,_,X _ _ hobj,.of_isNs (PySem.W.isNs_of_in X hns),PySem.W.nsMap_none_of_in X hns hin,PySem.W.tail_of_in X ht⟩
  ·cases q
 ·cases q
structure XCls(K:PySem.W.Frag)(mg:Str->Option Value)(x:Str)(C:Addr):Prop where
 at_:mg x=some (.ref C)
 exc:PySem.W.excIn K C lX "ValueError.__new__"=true
section
variable{P:Program}{w:World}{K:PySem.W.Frag}{mg:Str->Option Value}{base:Heap}{N:List Str}{qual:Str}{scope:Scope}{f:Addr}{cd:Value}{A:Around}{outer:List Env}{s:Shared}{H:Hp}{E:XK}
theorem zP{x:Str}{C:Addr}{np cpos pos:Pos}{e:Expr}{te:TE}(hc:XCls K mg x C)(he:PE (bK P w K mg base N qual scope f cd A outer s H E) e te)
  (hg:Gl (bK P w K mg base N qual scope f cd A outer s H E) x:=by rfl) (hd:(x==("__debug__":Str))=false:=by decide)
  (hst:starEach [e] (bK P w K mg base N qual scope f cd A outer s H E).env=[(false,eval e (bK P w K mg base N qual scope f cd A outer s H E).env)]:=by rfl) :
  PS (bK P w K mg base N qual scope f cd A outer s H E) (.Raise (some (.Call (.Name x np) [e] [] cpos)) none pos) (fun _ σ H1=>te σ H1 fun v H2=>[v].length=1∧E (.ref C) none H2):=by
 intro pins s1 σ H1 D I h
 have O:=qg (newId := "ValueError.__new__") (bmB:=lX) (mg:=mg) (x:=x) I.ok.mod.kin hc.at_ hc.exc
 obtain⟨tl,Nn,nm,q,bs,hdct,sn,sub,ab,col,dd,k0,k1,k2,k3,k5,mN,hC,hN,hni,T⟩:=O.obj
 refine wpAny_Raise_call_subT (C:=C) (nm:=nm) (q:=q) (N:=Nn) (bs:=bs) (bm:=tl) (hdct:=hdct) (sn:=sn) (sub:=sub) (ab:=ab) (col:=col) (dd:=dd) (k0:=k0) (k1:=k1) (k2:=k2) (k3:=k3) (k5:=k5)
  PySem.F.excBase_ValueError (mN:=mN) (T.hasType PySem.F.excBase_ValueError.hasBase) (I.ok.hd rfl) (by rw[hst];rfl) hni (ld_glob I hg hc.at_ ⟨rfl,?_⟩ hd)
 have hPA:=(pa_cons he pa_nil hst) cpos pins s1 σ H1 (fun vs H2=>vs.length=1∧E (.ref C) none H2) I h
 rw[hst] at hPA ⊢
 refine Calls.evalArgs_plain (wpAny_mono hPA (fun vs s₂ h₂=>?_) fun _ _ y=>y)
 obtain⟨ws,H2,I2,rv,l1,qE⟩:=h₂
 have lv:vs.length=1:=by rw[←rv.length];exact l1
 have kp:∀b o,base.get? b=some o->s₂.heap.get? b=some o:=I2.bk
 exact⟨rfl,by rw[lv];decide,kp _ _ hC,hN.keeps kp,T.keeps kp,fun h' e hm=>Et I2 hm qE⟩
end
section
variable{X:Cx}{pins:List (Addr×Obj)}{σ:St}{H:Hp}{s:Shared}{h' B:Heap}
theorem Inv.land(I:Inv X pins σ H s)(hc:X.env.cells=[])(hex:X.ex=[])(hB:B.StaysIn s.heap)(hB':B.StaysIn h')(up:s.heap.UpToSlots h')
  (fr:∀b∈X.fs,∃o,s.heap.get? b=some o∧∀vs,o.data≠.fields vs) (ci:∀b,H b≠none->∃o,B.get? b=some o) (cov:∀b o,X.s₀.heap.get? b=some o->b∉X.fs->∃o',B.get? b=some o')
  (cp:∀p∈X.pn++pins,B.get? p.1=some p.2):Inv X pins σ H { s with heap:=h' }:=by
 have nc:∀x c,X.env.cells.lookup x=some c->False:=fun x c e=>by rw[hc] at e;cases e
 obtain⟨m,hn,hl⟩:=I.loc
 have ub:Un X.fs [] X.H₀ H X.s₀.heap s.heap:=by have:=I.base;rw[hex] at this;exact this
 refine⟨I.ok,I.os,I.bare,?_,⟨m,up.ns hn,fun i x v h1 h2 h3=>?_⟩,fun x c e=>(nc x c e).elim,I.free,fun x c e=>(nc x c e).elim,fun p hp=>?_,nP I.hok hB hB' ci,I.len⟩
 ·rw[hex];exact qC ub hB hB' up fr cov
 ·obtain⟨u,r,q⟩:=hl i x v h1 h2 h3
  refine⟨u,r,?_⟩
  rcases q with q | ⟨_,c,e,_⟩
  ·exact .inl q
  ·exact (nc x c e).elim
 ·obtain⟨e,n,ne,nf,d⟩:=I.pin p hp
  exact⟨hB' _ _ (cp p hp),n,ne,nf,d⟩
theorem Inv.gone {i:Nat}{n:Str}{pos:Pos}{M:Model}{A:Around}{E:Value->Shared->Prop}{Q:Unit->Shared->Prop} (I:Inv X pins σ H s) (hN:X.N.Nodup) (hi:X.N[i]?=some n) (hk:X.env.kindOf n=some .local)
  (h:∀s',Inv X pins (σ.set i none) H s'->Q () s'):wpAny M A (do bindName X.env n .none;unbindBehindTheSuite X.env n pos) Q E s:=by
 obtain⟨m,hn,hl⟩:=id I.loc
 have hcls:(X.env.scope.kind==.class || (X.env.scope.kind==.module&&X.env.locals != X.env.globals))=false:=by rw[I.ok.kind];rfl
 have cne:=I.cne
 obtain⟨oL,_,_,hoL,_⟩:=id hn
 refine wpAny_nameGoes_keeps hk hn hcls fun h' v hn' hs=>?_
 refine h _ ⟨I.ok,I.os,I.bare,⟨fun b o e n hb hx=>?_,fun b o e n hb hx=>?_,I.base.free,fun b o e hx=>?_,I.base.tups,I.base.frzs,I.base.tbls⟩,⟨_,hn',fun j y v' e1 e2 e3=>?_⟩,fun y c e=>?_,I.free,I.freeC,fun p hp=>?_,fun b ob e=>?_,by simpa using I.len⟩
 ·exact (hs.2 b (Nat.ne_of_lt (Nat.lt_of_lt_of_le (Heap.lt_size e) I.ok.above))).trans (I.base.keep b o e n hb hx)
 ·obtain⟨sl,e1⟩:=I.base.slot b o e n hb hx
  exact⟨sl,(hs.2 b (Nat.ne_of_lt (Nat.lt_of_lt_of_le (Heap.lt_size e) I.ok.above))).trans e1⟩
 ·obtain⟨o',e1⟩:=I.base.there b o e hx
  exact⟨o',(hs.2 b (Nat.ne_of_lt (Nat.lt_of_lt_of_le (Heap.lt_size e) I.ok.above))).trans e1⟩
 ·have hj:j≠i:=fun z=>by
   subst z
   have hlt:j<σ.length:=by rw[I.len];exact (List.getElem?_eq_some_iff.mp hi).1
   rw[List.getElem?_set_self hlt] at e2
   cases e2
  rw[List.getElem?_set_ne (Ne.symm hj)] at e2
  obtain⟨u',r',q⟩:=hl j y v' e1 e2 e3
  refine⟨u',r',?_⟩
  rcases q with ⟨k,e⟩ | ⟨k,c,e,z⟩
  ·refine .inl ⟨k,?_⟩
   have:y≠n:=fun e=>hj (nodup_ix hN e1 (e ▸ hi))
   simp[this,e]
  ·exact .inr ⟨k,c,e,z.sameBut hs (cne y c e)⟩
 ·obtain⟨w',z⟩:=I.cell y c e
  exact⟨w',z.sameBut hs (cne y c e)⟩
 ·obtain⟨e,n,ne,nf,d⟩:=I.pin p hp
  exact⟨(hs.2 p.1 ne).trans e,n,ne,nf,d⟩
 ·refine (I.hok b ob e).stay (fun c w' hc q=>(hs.2 c ?_).trans q) (fun _ q=>q) fun _ _ q=>q
  rintro rfl
  rcases hc with hc | hc
  ·rw[←hc,I.free] at e;cases e
  ·rw[I.free] at hc;cases hc
end
def HJ (X:Cx) (pins:List (Addr×Obj)) (Eh:XK):Value->Shared->Prop:=fun e s'=>
 ∃(σ':St) (H':Hp) (x:Addr) (C a0:Value) (B:Heap),e=.ref x∧Inv X pins σ' H' s'∧Heap.FlyingW B X.stack x C a0 s'.heap∧(∀b,H' b≠none->∃o,B.get? b=some o) ∧
   (∀b o,X.s₀.heap.get? b=some o->b∉X.fs->∃o',B.get? b=some o')∧(∀p∈X.pn++pins,B.get? p.1=some p.2)∧Eh C none H'
abbrev Cx.tryC(X:Cx)(pins:List (Addr×Obj))(Eh:XK):Cx:={ X with pn:=X.pn++pins,xe:=HJ X pins Eh }
abbrev Cx.sui(X:Cx)(x:Addr)(oe:Obj):Cx:={ X with A:=X.A.mark (some (.ref x)),calm:=false,pn:=X.pn++[(x,oe)],xe:=fun _ _=>False }
section
variable{X:Cx}{pins:List (Addr×Obj)}{σ:St}{H:Hp}{s:Shared}{Eh:XK}{P:Program}{w:World}
theorem Inv.toTry(I:Inv X pins σ H s):Inv (X.tryC pins Eh) [] σ H s:=
 ⟨⟨I.ok.mod,I.ok.kind,I.ok.glob,I.ok.blt,I.ok.above,I.ok.inj,I.ok.has,I.ok.cab,I.ok.hd,I.ok.frames,I.ok.stk,I.ok.exf,I.ok.bs,I.ok.bsz,I.ok.noex,I.ok.exfs,I.ok.funs,I.ok.frf⟩,I.os,I.bare,I.base,I.loc,I.cell,I.free,I.freeC,fun p hp=>I.pin p (by simpa using hp),I.hok,I.len⟩
theorem Inv.ofTry{pins2:List (Addr×Obj)}(I:Inv (X.tryC pins Eh) pins2 σ H s):Inv X pins σ H s:=
 ⟨⟨I.ok.mod,I.ok.kind,I.ok.glob,I.ok.blt,I.ok.above,I.ok.inj,I.ok.has,I.ok.cab,I.ok.hd,I.ok.frames,I.ok.stk,I.ok.exf,I.ok.bs,I.ok.bsz,I.ok.noex,I.ok.exfs,I.ok.funs,I.ok.frf⟩,I.os,I.bare,I.base,I.loc,I.cell,I.free,I.freeC,fun p hp=>I.pin p (List.mem_append_left _ hp),I.hok,I.len⟩
theorem Inv.toSui {x:Addr}{oe:Obj} (I:Inv X pins σ H s) (h:s.heap.get? x=some oe∧H x=none∧x≠X.env.locals∧x∉X.fs∧∀ v,oe.data≠.cell v):Inv (X.sui x oe) pins σ H s:=
 ⟨⟨I.ok.mod,I.ok.kind,I.ok.glob,I.ok.blt,I.ok.above,I.ok.inj,I.ok.has,I.ok.cab,fun z=>(by cases z),I.ok.frames,I.ok.stk,I.ok.exf,I.ok.bs,I.ok.bsz,I.ok.noex,I.ok.exfs,I.ok.funs,I.ok.frf⟩,I.os,I.bare,I.base,I.loc,I.cell,I.free,I.freeC,fun p hp=>by
  rcases List.mem_append.mp hp with hp | hp
  ·rcases List.mem_append.mp hp with hp | hp
   ·exact I.pin p (List.mem_append_left _ hp)
   ·cases List.mem_singleton.mp hp;exact h
  ·exact I.pin p (List.mem_append_right _ hp),I.hok,I.len⟩
theorem Inv.ofSui{x:Addr}{oe:Obj}(ok:X.Ok)(I:Inv (X.sui x oe) pins σ H s):Inv X pins σ H s:=
 ⟨ok,I.os,I.bare,I.base,I.loc,I.cell,I.free,I.freeC,fun p hp=>I.pin p (by
  rcases List.mem_append.mp hp with hp | hp
  ·exact List.mem_append_left _ (List.mem_append_left _ hp)
  ·exact List.mem_append_right _ hp),I.hok,I.len⟩
theorem FZ (hex:X.ex=[]) (hP:X.prog=P) (hw:X.w=w):Passes (cM P w) (X.tryC pins Eh) Eh:=by
 subst hP hw
 intro pins2 σ H1 s1 e s' I hf
 obtain⟨x,C,a0,H',B,rfl,os,bare,un,hok,fl,ci,cii,q⟩:=hf
 have J:Inv (X.tryC pins Eh) pins2 σ H' s':=I.call' (ch:=[]) os un hok bare (fun b z=>absurd z (by simp))
 have J':=J.ofTry
 have cp:∀p∈X.pn++pins,B.get? p.1=some p.2:=fun p hp=>by
  obtain⟨e1,n1,ne1,nf1,d1⟩:=I.ofTry.pin p hp
  obtain⟨e2,_⟩:=J'.pin p hp
  obtain⟨o',e3⟩:=cii p.1 p.2 e1 (fun hm=>by
   rcases List.mem_cons.mp (I.ofTry.stkSub _ hm) with z | z
   ·exact ne1 z
   ·exact nf1 z)
  have:=fl.1 _ _ e3
  rw[e2] at this;cases this
  exact e3
 have cov:∀b o,X.s₀.heap.get? b=some o->b∉X.fs->∃o',B.get? b=some o':=fun b o e hb=>by
  obtain⟨o1,h1⟩:=I.base.there b o e (by show b∉X.ex;rw[hex];simp)
  refine cii b o1 h1 fun hm=>?_
  rcases List.mem_cons.mp (I.ofTry.stkSub _ hm) with z | z
  ·exact absurd (Heap.lt_size e) (by rw[z];exact Nat.not_lt.mpr I.ok.above)
  ·exact hb z
 exact⟨σ,H',x,C,a0,B,rfl,J',fl,ci,cov,cp,q⟩
end
section
variable{M:Model}{A:Around}{E:Value->Shared->Prop}
variable{nm q:Str}{C N:Addr}{bs bm:List Value}{hdct:Bool}{sn:List Str}{sub:List Value}{ab:Bool}{col:Option Bool}{dd:Option Addr}{k0 k1 k2 k3 k5:Option Value}{newId:String}
variable{nm' q':Str}{C' N':Addr}{bs' bm':List Value}{hdct':Bool}{sn':List Str}{sub':List Value}{ab':Bool}{col':Option Bool}{dd':Option Addr}{j0 j1 j2 j3 j5:Option Value}{newId':String}
theorem pX{h:Heap}{g:Array GenState}{d:Drawn}{t:Nat}{os:OsState}{e:Addr}{oe:Obj}{Q:Bool->Shared->Prop}
  (hC:h.get? C=some (excClassObj nm q C N bs bm hdct sn sub ab col dd k0 k1 k2 k3 k5 newId)) (hC':h.get? C'=some (excClassObj nm' q' C' N' bs' bm' hdct' sn' sub' ab' col' dd' j0 j1 j2 j3 j5 newId')) (he:h.get? e=some oe) (hcls:oe.cls=.ref C)
  (hbase:bm'.contains (.type "BaseException")=true) (hsub:(Value.ref C::bm).contains (.ref C')=true)
  (hq:Q true ⟨h,g,d,t,os⟩):wpAny M A (excMatches (.ref e) (.ref C')) Q E ⟨h,g,d,t,os⟩:=by
 have hcB:(Value.ref C'::bm').contains (.type "BaseException")=true:=by rw[List.contains_cons,hbase,Bool.or_true]
 have f:=tc_notTuple
 unfold excMatches
 repeat (first | (with_reducible refine wpAny_loadPart_at he ?_;rw[hcls]) | with_reducible refine wpAny_loadPart_at hC' ?_ | (with_reducible refine wpAny_isSubtype_exc hC' ?_;rw[hcB]) | (with_reducible refine wpAny_isSubtype_exc hC ?_;rw[hsub]) | wp_step)
 all_goals exact hq
end
structure Catches(K:PySem.W.Frag)(C F:Addr):Prop where
 exc:PySem.W.excIn K C lX "ValueError.__new__"=true
 excF:PySem.W.excIn K F lX "ValueError.__new__"=true
 sub:PySem.W.mroIn K C (.ref F)=some true
theorem vH {K:PySem.W.Frag}{M:Model}{A:Around}{E:Value->Shared->Prop}{s:Shared}{C F e:Addr}{oe:Obj}{Q:Bool->Shared->Prop} (X:K.In s.heap) (c:Catches K C F) (he:s.heap.get? e=some oe) (hcls:oe.cls=.ref C) (hq:Q true s) :
  wpAny M A (excMatches (.ref e) (.ref F)) Q E s:=by
 obtain⟨bm,N,nm,q,bs,hdct,sn,sub,ab,col,dd,k0,k1,k2,k3,k5,mN,hC,hN,hni,T⟩:=(qg (mg:=fun _=>some (.ref C)) (x := "x") X rfl c.exc).obj
 obtain⟨bm',N',nm',q',bs',hdct',sn',sub',ab',col',dd',j0,j1,j2,j3,j5,mN',hC',hN',hni',T'⟩:=(qg (mg:=fun _=>some (.ref F)) (x := "x") X rfl c.excF).obj
 have hsub:(Value.ref C::bm).contains (.ref F)=true:=by
  have h1:=c.sub
  unfold PySem.W.mroIn at h1
  obtain⟨cd,a,b⟩:=Option.bind_eq_some_iff.mp h1
  unfold PySem.W.clsIn at a
  split at a
  ·rename_i c' d' cd' sl' ho
   have:=X _ _ ho
   rw[hC] at this
   cases this
   cases a
   split at b
   ·cases b
   ·exact Option.some.inj b
  ·cases a
 obtain⟨hp,g,d,tk,os⟩:=s
 exact pX hC hC' he hcls (T'.hasType PySem.F.excBase_ValueError.hasBase) hsub hq
def Hy(X:Cx)(i:Nat)(F:Addr)(Eh:XK)(tb:TS)(th:Addr->Obj->TS):TS:=fun D σ H=>
 tb D σ H∧∀(x:Addr) (oe:Obj) (C:Value) (H1:Hp),oe.cls=C->(∃vs,oe.data=.fields vs)->Eh C none H1->(∃c,C=.ref c∧Catches X.K c F) ∧
  th x oe { D with nx:=fun σ' H'=>D.nx (σ'.set i none) H',bk:=fun σ' H'=>D.bk (σ'.set i none) H',ct:=fun σ' H'=>D.ct (σ'.set i none) H' } ((List.replicate X.N.length none).set i (some (.ref x))) H1
theorem Ec {X:Cx}{Eh:XK}{tb:TS}{th:Addr->Obj->TS}{x n:Str}{F:Addr}{i:Nat}{body suite:List Stmt}{b₀:Stmt}{np p1 pos:Pos} (hcalm:X.calm=true) (hcells:X.env.cells=[]) (hex:X.ex=[])
  (hst:X.stack=X.env::X.outer) (hfr:X.env.frame=some X.env.locals) (hN:X.N.Nodup) (hi:X.N[i]?=some n) (hk:X.env.kindOf n=some .local) (hm:X.mg x=some (.ref F))
  (hb:∀pins,PSs (X.tryC pins Eh) body tb) (hs:∀y oe,PSs (X.sui y oe) (b₀::suite) (th y oe)) (hg:Gl X x:=by rfl) (hd:(x==("__debug__":Str))=false:=by decide) :
  PS X (.Try body [.ExceptHandler (some (.Name x np)) (some n) (b₀::suite) p1] [] [] pos) (Hy X i F Eh tb th):=by
 intro pins s σ H D I h
 obtain⟨h1,h2⟩:=h
 have G4:∀{f:Flow}{s':Shared},SP (X.tryC pins Eh) [] D f s'->SP X pins D f s':=fun {f s'} z=>by
  cases f with
  |next=>obtain⟨σ',H',J,q⟩:=z;exact⟨σ',H',J.ofTry,q⟩
  |brk=>obtain⟨σ',H',J,q⟩:=z;exact⟨σ',H',J.ofTry,q⟩
  |cont=>obtain⟨σ',H',J,q⟩:=z;exact⟨σ',H',J.ofTry,q⟩
  |ret u=>obtain⟨v,σ',H',J,r,q⟩:=z;exact⟨v,σ',H',J.ofTry,r,q⟩
 refine wpAny_Try_except (wpAny_mono ((hb pins) [] s σ H D I.toTry h1) (fun f s₁ hf=>?_) fun e s₁ he=>?_)
 ·have hf':=G4 hf
  cases f with
  |next=>exact wpAny_execs_nil hf'
  |brk=>exact hf'
  |cont=>exact hf'
  |ret u=>exact hf'
 obtain⟨σ',H',y,C,a0,B,rfl,J,fl,ci,cov,cp,q⟩:=he
 have hfrs:X.A.frames=some (X.env::X.outer):=by rw[I.ok.frames,hst]
 rw[hst] at fl
 have fr:∀b∈X.fs,∃o,s₁.heap.get? b=some o∧∀vs,o.data≠.fields vs:=fun b hb=>(fl.2.2.1.2.2.mem hb).2
 refine wpAny_looks_onW hfrs hfr fl fun h₄ held up₄=>?_
 refine wpAny_landsW held fun h₅ fl₅ up₅=>?_
 have J₅:Inv X pins σ' H' { s₁ with heap:=h₅ }:=J.land hcells hex fl.1 fl₅.1 (up₄.trans up₅) fr ci cov cp
 obtain⟨ob,wb,hob,hobc,hobd,_⟩:=fl₅.first
 refine wpAny_handleBy_cons (codeAny_handlers_test ?_) (by intro z;cases z)
 have K₅:∀{E:Value->Shared->Prop}{Q:Value->Shared->Prop},Q (.ref F) { s₁ with heap:=h₅ }->wpAny (model X.prog X.w) (X.A.mark (some (.ref y))) (eval (.Name x np) X.env) Q E { s₁ with heap:=h₅ }:=fun hQ=>
  Calls.Name_function_global I.ok.kind hg (by
   have g5:h₅.Ns X.env.globals X.mg:=by rw[I.ok.glob];exact I.ok.mod.glob.keeps J₅.bk
   exact Calls.loadGlobal_global g5 hm hQ) hd
 refine K₅ ?_
 obtain⟨⟨c,hCc,cat⟩,_⟩:=h2 y ob C H' hobc ⟨_,hobd⟩ q
 subst hCc
 refine vH J₅.kIn cat hob hobc ?_
 refine codeAny_handlers_suite_as ?_
 refine lands_againW fl₅ fun h₆ fl₆ up₆=>?_
 have fr₅:∀b∈X.fs,∃o,h₅.get? b=some o∧∀vs,o.data≠.fields vs:=fun b hb=>(fl₅.2.2.1.2.2.mem hb).2
 have fr₆:∀b∈X.fs,∃o,h₆.get? b=some o∧∀vs,o.data≠.fields vs:=fun b hb=>(fl₆.2.2.1.2.2.mem hb).2
 have J₆:Inv X pins σ' H' { s₁ with heap:=h₆ }:=J₅.land (s:={ s₁ with heap:=h₅ }) hcells hex fl₅.1 fl₆.1 up₆ fr₅ ci cov cp
 have J₇:Inv X pins (List.replicate X.N.length none) H' { s₁ with heap:=h₆ }:=J₆.weak (by rw[J₆.len];simp) fun i v z=>by
  rw[List.getElem?_replicate] at z
  split at z<;>cases z
 obtain⟨oe,ws,hoe,hoec,hoed,hoe0⟩:=fl₆.first
 obtain⟨m,⟨oL,es,ep,hoL,hdL,_⟩,_⟩:=id J₇.loc
 have ynL:y≠X.env.locals:=fun z=>by rw[z] at hoe;rw[hoL] at hoe;cases hoe;rw[hdL] at hoed;cases hoed
 have ynf:y∉X.fs:=fun z=>by
  obtain⟨o,ho,nf⟩:=fr₆ y z
  rw[hoe] at ho;cases ho
  exact nf _ hoed
 have yH:H' y=none:=by
  cases z:H' y with
  |none=>rfl
  |some o=>
    obtain⟨o',e'⟩:=ci y (by rw[z];simp)
    rw[fl.2.1] at e';cases e'
 refine store_ok2 (v:=.ref y) J₇ hN hi (.inl hk) rfl (fun s' I' hsb=>?_) (.inr hk)
 obtain⟨a,hsb,ha⟩:=hsb
 have ha':a=X.env.locals:=by
  rcases ha with ha | ha
  ·exact ha
  ·rw[hcells] at ha;cases ha
 subst ha'
 have hoe':s'.heap.get? y=some oe:=(hsb.2 y ynL).trans hoe
 have IS:=I'.toSui (x:=y) (oe:=oe) ⟨hoe',yH,ynL,ynf,fun v z=>by rw[hoed] at z;cases z⟩
 refine wpAny_mono ((hs y oe) pins s' _ H' _ IS (h2 y oe (.ref c) H' hoec ⟨_,hoed⟩ q).2) (fun f s₃ hf=>?_) fun _ _ z=>z.elim
 cases f with
 |next=>
   obtain⟨σ2,H2,J2,q2⟩:=hf
   exact (J2.ofSui I.ok).gone hN hi hk fun s4 J4=>⟨_,H2,J4,q2⟩
 |brk=>
   obtain⟨σ2,H2,J2,q2⟩:=hf
   exact (J2.ofSui I.ok).gone hN hi hk fun s4 J4=>⟨_,H2,J4,q2⟩
 |cont=>
   obtain⟨σ2,H2,J2,q2⟩:=hf
   exact (J2.ofSui I.ok).gone hN hi hk fun s4 J4=>⟨_,H2,J4,q2⟩
 |ret u=>
   obtain⟨v,σ2,H2,J2,r2,q2⟩:=hf
   exact (J2.ofSui I.ok).gone hN hi hk fun s4 J4=>⟨v,_,H2,J4,r2,q2⟩
structure XAt(K:PySem.W.Frag)(D:Addr):Prop where
 ga:PySem.W.findIn K (.ref D) "__getattribute__"=some (some (.builtin "BaseException.__getattribute__"))
 gn:PySem.W.findIn K (.ref D) "__getattr__"=some none
 gc:PySem.W.findIn K (.ref D) "__class__"=some (some (.builtin "object.__class__"))
 mo:PySem.W.mroIn K D (.type "object")=some true
 mb:PySem.W.mroIn K D (.type "BaseException")=some true
section
variable{prog:Program}{w:World}{A:Around}{E:Value->Shared->Prop}{h:Heap}{g:Array GenState}{d:Drawn}{t:Nat}{os:OsState}{x D:Addr}{oe:Obj}{K:PySem.W.Frag}
theorem xf{M:Model}(hx:h.get? x=some oe)(hc:oe.cls=.ref D):PySem.W.Looks M h (typeOf (.ref x)) (.ref D):=hc ▸ (PySem.W.Looks.ld hx).andThen .now
open PySem.W Builtin.Getset_descriptor Builtin.ObjectAttr Builtin in
theorem vz{R:Result->Shared->Prop}{tp:Value}(X:K.In h)(hx:h.get? x=some oe)(hc:oe.cls=.ref D)(hm:mroIn K D (.type "object")=some true)
  (hR:R (.ok (.ret (.ref D))) ⟨h,g,d,t,os⟩):codeAny (model prog w) A (.call (.builtin "getset_descriptor.__get__") ⟨[.builtin "object.__class__",.ref x,tp],[]⟩) R ⟨h,g,d,t,os⟩:=by
 have Lty:=xf (M:=model prog w) hx hc
 have Lmr:=looks_mroIn (M:=model prog w) X hm
 refine codeAny_call_builtin KF.slot_gs.plain KF.entry_gs (KF.slot_gs.check _ _ _ _ _ _ _ _ KF.type_class (KF.args_gs _ _ _) ?_)
 (unfold Builtin.«getset_descriptor.__get__» descrGet;rw[dga_obj];refine wpAny_bind (wpAny_pure ?_))
 (unfold descrGetter descrCheckInstance descrNameAndClass isInstance;simp only[KF.owner_class];repeat lk)
 refine⟨Code.quiet_builtin _ (by decide +kernel),codeAny_builtin KF.entry_class ?_⟩
 (unfold Builtin.«object.__class__» shownTypeOf;repeat lk)
 all_goals first | exact hR | assumption
theorem tY{tk:Tok}{Q:Fin->Shared->Prop}(X:K.In h)(T:XAt K D)(hx:h.get? x=some oe)(hc:oe.cls=.ref D)(hq:Q (.done (.ret (.ref D))) ⟨h,g,d,t,os⟩) :
  wpAny (model prog w) A (Builtin.«object.__getattribute__» ⟨[.ref x,.str "__class__" tk],[]⟩) Q E ⟨h,g,d,t,os⟩:=by
 have tyc:(⟨h,g,d,t,os⟩:Shared).TypeIs (.builtin "object.__class__") "getset_descriptor":=F.typeOf_object_class
 have u5:=F.typeOf_object_class
 have u6:=F.slot_gs_get.lookup
 have u7:=F.slot_gs_set.lookup
 have Lc:=PySem.W.looks_findIn (M:=model prog w) X T.gc
 repeat (any_goals (first | assumption | (with_reducible refine wpAny_loadPart_at hx ?_;rw[hc]) | with_reducible refine Lc.at ?_ | wp_step))
 refine vz X hx hc T.mo ?_
 repeat (any_goals (first | wp_step | assumption))
theorem yV{M:Model}{nameV:Value}{Q:Unit->Shared->Prop}(X:K.In h)(T:XAt K D)(hx:h.get? x=some oe)(hc:oe.cls=.ref D)(hq:Q () ⟨h,g,d,t,os⟩) :
  wpAny M A (checkBuiltinCall "BaseException.__getattribute__" ⟨[.ref x,nameV],[]⟩) Q E ⟨h,g,d,t,os⟩:=by
 have bk:builtinKind "BaseException.__getattribute__"=some .slot:=by decide +kernel
 have spl:splitId "BaseException.__getattribute__"=some ("BaseException", "__getattribute__"):=by decide +kernel
 have ha:=F.args_bexc_ga (.ref x) nameV
 have Lb:=PySem.W.looks_mroIn (M:=M) X T.mb
 simp only[checkBuiltinCall,bk,spl]
 refine wpAny_bind ?_
 ·unfold isInstance
  repeat (first | (with_reducible refine wpAny_loadPart_at hx ?_;rw[hc]) | with_reducible refine Lb.at ?_ | wp_step)
  exact hq
theorem vy{tk:Tok}{R:Result->Shared->Prop}(X:K.In h)(T:XAt K D)(hx:h.get? x=some oe)(hc:oe.cls=.ref D)(hq:R (.ok (.ret (.ref D))) ⟨h,g,d,t,os⟩) :
  codeAny (model prog w) A (.call (.builtin "BaseException.__getattribute__") ⟨[.ref x,.str "__class__" tk],[]⟩) R ⟨h,g,d,t,os⟩:=
 codeAny_call_builtin F.attrBase_ValueError.ga.plain F.entry_bexc_ga (yV X T hx hc (tY X T hx hc hq))
theorem yX{tk:Tok}{fill expr:Bool}{Q:Value->Shared->Prop}(X:K.In h)(T:XAt K D)(hx:h.get? x=some oe)(hc:oe.cls=.ref D)(hq:Q (.ref D) ⟨h,g,d,t,os⟩) :
  wpAny (model prog w) A (getAttrBy (.ref x) (.str "__class__" tk) fill expr) Q E ⟨h,g,d,t,os⟩:=by
 have u3:=F.attrBase_ValueError.ga.bind (.ref x)
 have ex0:(expr&&onTheHeap (Value.builtin "BaseException.__getattribute__"))=false:=by cases expr<;>rfl
 have ex2:(Value.builtin "BaseException.__getattribute__"==Value.builtin "object.__getattribute__")=false:=by decide +kernel
 have ex1:(onTheHeap (Value.ref D)&&Value.builtin "BaseException.__getattribute__"==Value.builtin "object.__getattribute__")=false:=by rw[ex2];rfl
 have L1:=PySem.W.looks_findIn (M:=model prog w) X T.ga
 have L2:=PySem.W.looks_findIn (M:=model prog w) X T.gn
 repeat (any_goals (first | assumption | (with_reducible refine wpAny_loadPart_at hx ?_;rw[hc]) | with_reducible refine L1.at ?_ | with_reducible refine L2.at ?_ | wp_step))
 refine vy X T hx hc ?_
 repeat (any_goals (first | wp_step | assumption))
theorem oV{Q:Option Value->Shared->Prop}(X:K.In h)(T:XAt K D)(hx:h.get? x=some oe)(hc:oe.cls=.ref D)(hq:Q (some (.ref D)) ⟨h,g,d,t+1,os⟩) :
  wpAny (model prog w) A (getAttr? (.ref x) "__class__") Q E ⟨h,g,d,t,os⟩:=by
 unfold getAttr? getAttrBy?
 refine wpAny_bind (wpAny_mkText (wpAny_bind (wpAny_attempt (yX X T hx hc ?_))))
 repeat (any_goals (first | wp_step | assumption))
end
theorem zy {K:PySem.W.Frag}{x D:Addr}{oe:Obj} (T:XAt K D) (hc:oe.cls=.ref D) :
  PySem.W.KitX K (.ref x) (.ref D) (fun h=>h.get? x=some oe) where
 ty:=fun _ _ _ I=>xf I hc
 it:=fun _ _ X _=>by
  have h1:=T.mo
  unfold PySem.W.mroIn at h1
  obtain⟨cd,a,b⟩:=Option.bind_eq_some_iff.mp h1
  unfold PySem.W.clsIn at a
  split at a
  ·rename_i c' d' cd' sl' ho
   intro A' Q' E' s' k q
   unfold isType loadHead
   exact wpAny_bind (wpAny_loadPart (k _ _ (X _ _ ho)) (wpAny_pure q))
  ·cases a
 ne:=fun h tp dd its n sl X htp=>by
  have h1:=T.mo
  unfold PySem.W.mroIn at h1
  obtain⟨cd,a,b⟩:=Option.bind_eq_some_iff.mp h1
  refine Bool.eq_false_iff.mpr fun q=>?_
  cases Value.ref.inj (beq_iff_eq.mp q)
  unfold PySem.W.clsIn at a
  split at a
  ·rename_i c' d' cd' sl' ho
   have z:=(X _ _ ho).symm.trans htp
   cases z
  ·cases a
 ca:=fun {_ _ _ _ _ s} X I k=>by obtain⟨h,g,d,t,os⟩:=s;exact oV X T I hc k
def Gh(K:PySem.W.Frag)(y:Addr)(oe:Obj):List V->Hp->VK->Prop:=fun xs H Q=>∃(c:V) (cv:Value) (D:Addr) (b:Bool),xs=[.ref y,c]∧RelV c cv∧(cv=.type "ValueError"∨∃C,cv=.ref C)∧oe.cls=.ref D∧XAt K D∧PySem.W.kitOne K (.ref D) cv=some b∧Q (.bl b) H
theorem RelV.det{c:V}{u v:Value}(r:RelV c u)(q:RelV c v)(h:u=.type "ValueError"∨∃C,u=.ref C):v=u:=by
 cases c with
 |ref a=>cases r;cases q;rfl
 |ty n=>cases r;cases q;rfl
 |non=>cases r;rcases h with h | ⟨C,h⟩<;>cases h
 |bl b=>cases r;rcases h with h | ⟨C,h⟩<;>cases h
 |int i=>obtain⟨t,rfl⟩:=r;rcases h with h | ⟨C,h⟩<;>cases h
 |str i=>obtain⟨t,rfl⟩:=r;rcases h with h | ⟨C,h⟩<;>cases h
 |byt i=>obtain⟨t,rfl⟩:=r;rcases h with h | ⟨C,h⟩<;>cases h
 |flt i=>obtain⟨t,rfl⟩:=r;rcases h with h | ⟨C,h⟩<;>cases h
theorem wI{X:Cx}{y:Addr}{oe:Obj}(hp:(y,oe)∈X.pn):CallR X (.builtin "isinstance") (Gh X.K y oe):=by
 intro pins s σ H xs us Q I r h
 obtain⟨c,cv,D,b,rfl,rc,hk,hc,T,e,q⟩:=h
 obtain⟨u,w',rfl,r1,r2⟩:=vals2 r
 cases r1
 have:w'=cv:=RelV.det rc r2 hk
 subst this
 exact PySem.W.kia_one (zy T hc) I.kIn (I.pin (y,oe) (List.mem_append_left _ hp)).1 e (fun z=>nomatch z) fun tk=>⟨.bl b,H,I.tok _,rfl,q⟩
theorem Ea{X:Cx}{x:Str}{C:Addr}{pos:Pos}(h:X.mg x=some (.ref C))(hg:Gl X x:=by rfl)(hd:(x==("__debug__":Str))=false:=by decide):PE X (.Name x pos) (tC (.ref C)):=pe_glob hg h rfl hd
def pick(js:List Nat)(σ:St):St:=js.map fun j=>(σ[j]?).getD none
theorem yM{fs ex:List Addr}{H H':Hp}{h0 h h':Heap}{C:Addr}(u:Un fs ex H H' h0 h)(hs:Heap.SameBut C h h')(hC:h0.objs.size≤C):Un fs ex H H' h0 h' where
 keep b o e n hb hx:=(hs.2 b (Nat.ne_of_lt (Nat.lt_of_lt_of_le (Heap.lt_size e) hC))).trans (u.keep b o e n hb hx)
 slot b o e n hb hx:=by
  obtain⟨sl,e1⟩:=u.slot b o e n hb hx
  exact⟨sl,(hs.2 b (Nat.ne_of_lt (Nat.lt_of_lt_of_le (Heap.lt_size e) hC))).trans e1⟩
 free:=u.free
 there b o e hx:=by
  obtain⟨o',e1⟩:=u.there b o e hx
  exact⟨o',(hs.2 b (Nat.ne_of_lt (Nat.lt_of_lt_of_le (Heap.lt_size e) hC))).trans e1⟩
 tups:=u.tups
 frzs:=u.frzs
 tbls:=u.tbls
theorem uy {P:Program}{w:World}{H:Hp}{h h':Heap}{C:Addr} (ok:HOk P w H h) (hs:Heap.SameBut C h h') (hC:H C=none):HOk P w H h':=fun b ob e=>
 (ok b ob e).stay (fun c w' hc q=>(hs.2 c (by
   rintro rfl
   rcases hc with hc | hc
   ·rw[←hc,hC] at e;cases e
   ·rw[hC] at hc;cases hc)).trans q) (fun _ q=>q) fun _ _ q=>q
structure DefC(P:Program)(w:World)(K:PySem.W.Frag)(mg:Str->Option Value)(base:Heap)(k:Nat)(x:Str)(ps:List Str)(sp:Sp):Prop where
 ex:∃f fd,FnOk P w K mg base (cM P w) k f fd ps sp∧Binds K fd ps []∧PySem.W.keepIn K (.ref f)=true∧mg x=some (.ref f)
section
variable{P:Program}{w:World}{K:PySem.W.Frag}{mg:Str->Option Value}{base:Heap}{k:Nat}{x:Str}{N ps:List Str}{sp:Sp}{st:Stmt}
theorem G3 {f:Addr}{fd:FuncData} (F:Fun K x x st f fd) (S:FnScope N ps (defScope st)) (len:∀ vs H Q E,sp vs H Q E->vs.length=ps.length)
  (hbody:∀(cdv:Value) (A:Around) (outer:List Env) (s:Shared) (H:Hp) (vs:List V) (Q:VK) (E:XK),Room k (A.deeper (envOfC x (defScope st) s.heap.objs.size f cdv))->sp vs H Q E->
    ∃t,PSs (bK P w K mg base N x (defScope st) f cdv A outer s H E) (defBody st) t∧t { nx:=fun _ H'=>Q .non H',rt:=Q } (start N vs) H):FnOk P w K mg base (cM P w) (k+1) f fd ps sp:=by
 obtain⟨oc,od,kV,doc,pm,an,cdv,ct,osl,rfl,l,c⟩:=F.ex
 exact fn_of l c S len (hbody cdv)
theorem DefAt.okE (D:DefAt K mg x st) (S:FnScope N ps (defScope st)) (hb:∀ (kV doc pm:Value) (an:Option Addr) (cdv ct:Value) (us:List Value),us.length=ps.length->bindArgs (PySem.W.fnOf x x (defArgs st) (defBody st) (defScope st) .none kV doc pm an cdv ct) ⟨us,[]⟩=pure (ps.zip us))
  (len:∀vs H Q E,sp vs H Q E->vs.length=ps.length)
  (hbody:∀(f:Addr) (cdv:Value) (A:Around) (outer:List Env) (s:Shared) (H:Hp) (vs:List V) (Q:VK) (E:XK),Room k (A.deeper (envOfC x (defScope st) s.heap.objs.size f cdv))->sp vs H Q E->
    ∃t,PSs (bK P w K mg base N x (defScope st) f cdv A outer s H E) (defBody st) t∧t { nx:=fun _ H'=>Q .non H',rt:=Q } (start N vs) H):DefC P w K mg base (k+1) x ps sp:=by
 obtain⟨f,fd,F,m⟩:=D.ex
 exact⟨f,fd,G3 F S len (hbody f),F.binds hb,F.kp,m⟩
end
theorem jo{P:Program}{w:World}{X:Cx}:Passes (cM P w) X E0:=fun _ _ _ _ _ _ _ h=>by
 obtain⟨_,_,_,_,_,_,_,_,_,_,_,_,_,q⟩:=h
 exact q.elim
section
variable{X:Cx}{j k:Nat}{ps:List Str}{sp:Sp}{x:Str}{p pos:Pos}{e:Expr}{es:List Expr}{t:TA}{E:XK}
theorem zK(D:DefC X.prog X.w X.K X.mg X.base j x ps sp)(hr:Room k X.A)(hx:Passes (cM X.prog X.w) X E)(ha:PA X (e::es) t)(hjk:j≤k:=by decide)(hg:Gl X x:=by rfl)(hdb:(x==("__debug__":Str))=false:=by decide)
  (he:starEach (e::es) X.env=(false,eval e X.env)::starEach es X.env:=by rfl) (hpl:(backTo pos (starEach es X.env)).any (·.1)=false:=by rfl) :
  PE X (.Call (.Name x p) (e::es) [] pos) (tCall sp [] E t):=by
 obtain⟨f,fd,F,b,kp,m⟩:=D.ex
 exact pe_call F (hr.mono hjk) hg m kp b .nil hx ha hdb he hpl
end
section
variable{κ:Type}[DecidableEq κ]
def putK(kvs:List (κ×V))(k:κ)(v:V):List (κ×V):=
 if (kvs.any fun kv=>decide (kv.1=k))=true then kvs.map (fun kv=>if kv.1=k then (kv.1,v) else kv) else kvs++[(k,v)]
theorem length_putK(kvs:List (κ×V))(k:κ)(v:V):(putK kvs k v).length≤kvs.length+1:=by
 unfold putK
 split
 ·rw[List.length_map];omega
 ·rw[List.length_append,List.length_cons,List.length_nil];omega
theorem KV.any{kvs:List (κ×V)}{vs:List (κ×Value)}(r:KV kvs vs)(k:κ):(kvs.any fun kv=>decide (kv.1=k))=vs.any fun kv=>decide (kv.1=k):=by
 unfold KV at r
 induction r with
 |nil=>rfl
 |cons h t ih=>rw[List.any_cons,List.any_cons,ih,h.1]
theorem KV.repl {kvs:List (κ×V)}{vs:List (κ×Value)} (r:KV kvs vs) (k:κ) {y:V}{u:Value} (ry:RelV y u) :
  KV (kvs.map fun kv=>if kv.1=k then (kv.1,y) else kv) (vs.map fun kv=>if kv.1=k then (kv.1,u) else kv):=by
 unfold KV at r ⊢
 induction r with
 |nil=>exact .nil
 | @cons p q ps qs h t ih=>
   rw[List.map_cons,List.map_cons]
   refine .cons ?_ ih
   obtain⟨h1,h2⟩:=h
   by_cases e:p.1=k
   ·rw[if_pos e,if_pos (h1.symm.trans e)];exact⟨h1,ry⟩
   ·rw[if_neg e,if_neg (fun z=>e (h1.trans z))];exact⟨h1,h2⟩
theorem KV.put{kvs:List (κ×V)}{vs:List (κ×Value)}(r:KV kvs vs)(k:κ){y:V}{u:Value}(ry:RelV y u):KV (putK kvs k y) (stored vs k u):=by
 unfold putK stored
 rw[r.any k]
 by_cases e:(vs.any fun kv=>decide (kv.1=k))=true
 ·rw[if_pos e,if_pos e];exact r.repl k ry
 ·rw[if_neg e,if_neg e];exact Paired.snoc r ⟨rfl,ry⟩
end
theorem kV_is{P:Program}{w:World}{k:Key}{u:Value}(r:RelV (kV k) u):(mixKind P w).is k u=true:=by
 cases k with
 |inl i=>obtain⟨t,e⟩:=(show ∃t,u=Value.int i t from r);subst e;exact mixKind_int P w i t
 |inr x=>obtain⟨t,e⟩:=(show ∃t,u=Value.str x t from r);subst e;exact mixKind_str P w x t
section
variable{P:Program}{w:World}{H:Hp}{h:Heap}{a:Addr}
theorem rd_of{u:HO}(ok:HOk P w H h)(e:Rd H a u):ObjOk P w H h a u:=e.ok ok
theorem dk_rd{kvs:List (Key×V)}(ok:HOk P w H h)(e:Rd H a (.dK kvs)):kvs.length≤sizeLine∧(a==sysModules)=false∧∃vs,KV kvs vs∧h.DictOf (mixKind P w) a vs:=
 show ObjOk P w H h a (.dK kvs) from rd_of ok e
theorem dk_of{kvs:List (Key×V)}(ok:HOk P w H h)(e:H a=some (.dK kvs)):kvs.length≤sizeLine∧(a==sysModules)=false∧∃vs,KV kvs vs∧h.DictOf (mixKind P w) a vs:=dk_rd ok (.inl e)
end
section
variable{X:Cx}{pins:List (Addr×Obj)}{σ:St}{H:Hp}{s:Shared}{a:Addr}{y v:V}{u r:Value}{o:Option V}{A:Around}{E:Value->Shared->Prop}
theorem Inv.big(I:Inv X pins σ H s):sysModules<s.heap.objs.size:=by
 have h:mainGlobals<s.heap.objs.size:=(I.mod.glob.keeps I.bk).lt
 exact Nat.lt_trans (by decide) h
theorem d_write{h':Heap}{t':Nat}{ob:HO}(I:Inv X pins σ H s)(mu:Mut (H a))(hs:Heap.SameBut a s.heap h')(he:∃q,h'.get? a=some q)(new:ObjOk X.prog X.w (upd H a ob) h' a ob) :
  Inv X pins σ (upd H a ob) { s with heap:=h',toks:=t' }:=
 I.write (x:=a) (e:=a) mu (.inl rfl) (fun b q hb z=>(hs.2 b hb).trans z) he new
theorem dk_new{P:Program}{w:World}{H':Hp}{h':Heap}{kvs:List (Key×V)}{vs:List (Key×Value)}(z:kvs.length≤sizeLine)(hd:(a==sysModules)=false)(rel:KV kvs vs)(dd:h'.DictOf (mixKind P w) a vs) :
  ObjOk P w H' h' a (.dK kvs):=⟨z,hd,vs,rel,dd⟩
end
theorem dk_empty{P:Program}{w:World}{H:Hp}(h:Heap)(hb:sysModules<h.objs.size):ObjOk P w H (h.push { cls:=.type "dict",data:=.dict #[] }) h.objs.size (.dK []):=
 ⟨Nat.zero_le _,beq_eq_false_iff_ne.mpr (Ne.symm (Nat.ne_of_lt hb)),[],.nil,Heap.DictOf.new h⟩
def tDNewK:TE:=fun _ H Q=>∀p,H p=none->Q (.ref p) (upd H p (.dK []))
section
variable{X:Cx}{pos:Pos}
theorem pe_dnewK:PE X (.Dict [] [] pos) tDNewK:=fun pins s σ H Q I h=>
 wpAny_Dict_empty ⟨.ref s.heap.objs.size,_,I.laid (a:=s.heap.objs.size) (o:=.dK []) (t':=s.toks) (fun _ _ q=>Heap.get?_push_of_some _ q) (Nat.le_refl _) (dk_empty s.heap I.big),rfl,h _ (I.hok.fresh (Nat.le_refl _))⟩
end
def tPairs:List (TE×TE)->St->Hp->(List (V×V)->Hp->Prop)->Prop
 |[],_,H,Q=>Q [] H
 |(tk,tv)::r,σ,H,Q=>tk σ H fun x H1=>tv σ H1 fun y H2=>tPairs r σ H2 fun ps H3=>Q ((x,y)::ps) H3
abbrev VV:List (V×V)->List (Value×Value)->Prop:=Paired fun p q=>RelV p.1 q.1∧RelV p.2 q.2
def PPs (X:Cx) (pos:Pos) (keys:List (Option Expr)) (values:List Expr) (trs:List (TE×TE)):Prop:=
 ∀(pins:List (Addr×Obj)) (s:Shared) (σ:St) (H:Hp) (Q:List (V×V)->Hp->Prop),Inv X pins σ H s->tPairs trs σ H Q->
   wpAny (model X.prog X.w) X.A (evalPairs (pairTrees keys values X.env pos)) (fun vs s'=>∃ps H',Inv X pins σ H' s'∧VV ps vs∧Q ps H') X.xe s
theorem pps_nil{X:Cx}{pos:Pos}:PPs X pos [] [] []:=fun pins s σ H Q I h=>pairTrees_nil_walk ⟨[],H,I,.nil,h⟩
theorem pps_cons{X:Cx}{pos:Pos}{k v:Expr}{ks:List (Option Expr)}{vs:List Expr}{tk tv:TE}{trs:List (TE×TE)}(hk:PE X k tk)(hv:PE X v tv)(hr:PPs X pos ks vs trs) :
  PPs X pos (some k::ks) (v::vs) ((tk,tv)::trs):=fun pins s σ H Q I h=>
 pairTrees_cons_walk (thn (hk pins s σ H _ I h) fun u s1 ⟨x,H1,I1,rx,q1⟩=>thn (hv pins s1 σ H1 _ I1 q1) fun w2 s2 ⟨y,H2,I2,ry,q2⟩=>
  thn (hr pins s2 σ H2 _ I2 q2) fun ws s3 ⟨ps,H3,I3,rel,q3⟩=>⟨(x,y)::ps,H3,I3,.cons ⟨rx,ry⟩ rel,q3⟩)
def mergeK(kvs more:List (Key×V)):List (Key×V):=more.foldl (fun acc kv=>putK acc kv.1 kv.2) kvs
theorem KV.merge:∀ {more:List (Key×V)}{rs:List (Key×Value)}{kvs:List (Key×V)}{vs:List (Key×Value)},KV more rs->KV kvs vs->KV (mergeK kvs more) (merged vs rs):=by
 intro more rs kvs vs r
 unfold KV at r
 induction r generalizing kvs vs with
 |nil=>intro q;exact q
 | @cons p q ps qs h t ih=>
   intro r0
   have e:KV (putK kvs p.1 p.2) (stored vs q.1 q.2):=by
    have:=r0.put p.1 h.2
    rw[←h.1];exact this
   exact ih e
theorem length_mergeK:∀ (more kvs:List (Key×V)),(mergeK kvs more).length≤kvs.length + more.length
 |[],kvs=>by show kvs.length≤kvs.length+0;omega
 |p::r,kvs=>by
   have h1:=length_mergeK r (putK kvs p.1 p.2)
   have h2:=length_putK kvs p.1 p.2
   show (mergeK (putK kvs p.1 p.2) r).length≤_
   rw[List.length_cons];omega
theorem carries_of {P:Program}{w:World}:∀ {kvs:List (Key×V)}{ws:List (Value×Value)},VV (kvs.map fun kv=>(kV kv.1,kv.2)) ws->∃ rs,Carries (mixKind P w) ws rs∧KV kvs rs
 |[],_,r=>by rw[List.map_nil] at r;cases r;exact⟨[],True.intro,.nil⟩
 | p::kvs,_,r=>by
   rw[List.map_cons] at r
   cases r with
   | @cons a b as bs h t=>
     obtain⟨rs,c,q⟩:=carries_of (P:=P) (w:=w) t
     obtain⟨b1,b2⟩:=b
     exact⟨(p.1,b2)::rs,⟨kV_is h.1,rfl,c⟩,.cons ⟨rfl,h.2⟩ q⟩
def tDisp(trs:List (TE×TE)):TE:=fun σ H Q=>∀p,H p=none->tPairs trs σ (upd H p (.dK [])) fun ps H2=>H2 p=some (.dK [])∧∃kvs:List (Key×V),ps=kvs.map (fun kv=>(kV kv.1,kv.2))∧kvs.length≤15∧Q (.ref p) (upd H2 p (.dK (mergeK [] kvs)))
theorem pe_disp{X:Cx}{pos:Pos}{keys:List (Option Expr)}{values:List Expr}{trs:List (TE×TE)}(h:PPs X pos keys values trs)(hall:keys.all (·.isSome)=true)(hl:keys.length=values.length)(h0:keys≠[])
  (h15:keys.length≤15):PE X (.Dict keys values pos) (tDisp trs):=by
 intro pins s σ H Q I q
 have hn:=I.hok.fresh (Nat.le_refl s.heap.objs.size)
 have I1:=I.laid (a:=s.heap.objs.size) (o:=.dK []) (h':=s.heap.push { cls:=.type "dict",data:=.dict #[] }) (t':=s.toks) (fun _ _ q=>Heap.get?_push_of_some _ q) (Nat.le_refl _) (dk_empty s.heap I.big)
 refine wpAny_Dict_walk (knd:=mixKind X.prog X.w) hall hl h0 h15 (thn (h pins _ σ _ _ I1 (q _ hn)) fun ws s2 ⟨ps,H2,I2,rel,e,kvs,ep,lk,q2⟩=>?_)
 subst ep
 obtain⟨rs,c,rk⟩:=carries_of (P:=X.prog) (w:=X.w) rel
 obtain⟨z,hd,vs0,r0,dd⟩:=dk_of I2.hok e
 cases r0
 refine⟨rs,c,dd,fun h' dd' hs=>⟨.ref s.heap.objs.size,_,?_,rfl,q2⟩⟩
 have hz:(mergeK [] kvs).length≤sizeLine:=by
  have h1:=length_mergeK kvs []
  rw[List.length_nil] at h1
  rw[sizeLine_eq];omega
 have he:∃q,h'.get? s.heap.objs.size=some q:=let ⟨q,_,_,hq,_⟩:=dd';⟨q,hq⟩
 exact d_write I2 (by rw[e];exact True.intro) hs he (dk_new hz hd (rk.merge .nil) dd')
end L2
namespace HT
open PySem PySem.Spec PyProof.Rows PySem.W
section
variable{prog:Program}{w:World}{A:Around}{E:Value->Shared->Prop}{s:Shared}
theorem yU {t b:Addr}{vs ws:List Value}{Q:Value->Shared->Prop} (ht:IsTup s.heap t vs.toArray) (hb:IsTup s.heap b ws.toArray) (hv:vs=[])
  (h1:Q (.ref b) s):wpAny (model prog w) A (binaryOp .Add (.ref t) (.ref b)) Q E s:=by
 obtain⟨⟨cls,dd,data,sl⟩,ho,hc,n,hd⟩:=id ht
 obtain⟨⟨cls2,dd2,data2,sl2⟩,ho2,hc2,n2,hd2⟩:=id hb
 simp only at hc hd hc2 hd2
 subst hc hd hc2 hd2
 exact concat_meets ⟨_,ho,rfl⟩ ⟨_,ho2,rfl⟩ noFill_tuple_add seq_tuple_add PySem.F.slot_tuple_add PySem.F.entry_tuple_add (PySem.F.args_tuple_add_2 _ _)
   (tuple_addW0 t b vs.toArray ws.toArray n n2 dd dd2 sl sl2 (by simp[hv])) ⟨ho,ho2,h1⟩
theorem mK{t sl:Addr}{items:Array Value}{vl vu:Value}{lo hi:Option Int}{Q:Value->Shared->Prop}(ht:IsTup s.heap t items)(hs:s.heap.IsSliceOf sl vl vu .none)(pl:IsPart vl lo)(pu:IsPart vu hi)
  (hw:sIx items.size 0 lo=0∧sIx items.size items.size hi=items.size) (h:Q (.ref t) s):wpAny (model prog w) A (getItem (.ref t) (.ref sl)) Q E s:=by
 obtain⟨os,hos,hcs,hds⟩:=id hs
 obtain⟨ot,hot,hct,nt,hdt⟩:=id ht
 have hTs:s.TypeIs (.ref sl) "slice":=⟨os,hos,hcs⟩
 have hTt:s.TypeIs (.ref t) "tuple":=⟨ot,hot,hct⟩
 unfold getItem
 try with_reducible refine wpAny_holding ?_
 first | refine wpAny_bind (wpAny_pure ?_) | skip
 refine wpAny_bind (wpAny_sequenceKey ht.typeIs (by decide) ?_)
 refine wpAny_bind (wpAny_callSpecial?_slot (name:=Str.ofString "__getitem__") ht.typeIs PyProof.Rows.slot_tuple_getitem
  (wpAny_call_entry PyProof.Rows.slot_tuple_getitem ht.typeIs entry_tuple_getitem ?_ (args_tuple_getitem _ _)))
 show wpAny _ _ (Builtin.Tuple.tupleItemsOf (.ref t)>>=_) _ _ s
 refine wpAny_bind (tupleItemsOf_ ht ?_)
 refine wpAny_bind (wpAny_typeOf hTs ?_)
 rw[if_pos (by decide)]
 refine wpAny_bind (sliceApplied_gen hs pl pu ?_)
 have hno:((((sIx items.size 0 lo:Nat):Int)==0&&(1:Int)==1&&(sIx items.size items.size hi-sIx items.size 0 lo)==items.size)=true):=by
  rw[hw.1,hw.2];simp
 show wpAny _ _ (if (((sIx items.size 0 lo:Nat):Int)==0&&(1:Int)==1&&(sIx items.size items.size hi-sIx items.size 0 lo)==items.size)=true then _ else _) _ _ s
 rw[if_pos hno]
 unfold Builtin.Tuple.tupleIsExact
 refine wpAny_bind ?_
 refine wpAny_bind (wpAny_typeOf hTt (wpAny_pure ?_))
 rw[if_pos (by decide)]
 exact wpAny_bind (wpAny_rule (wpAny_pure ⟨_,rfl,wpAny_pure h⟩))
end
end HT
namespace L2
open PySem PySem.Spec PyProof.Rows
section
variable{X:Cx}
theorem zc{xs:List V}{lo hi:Option Int}(h:HT.sIx xs.length 0 lo=0∧HT.sIx xs.length xs.length hi=xs.length):cutV xs lo hi=xs:=by
 unfold cutV
 rw[h.1,h.2]
 simp
def Hq:V->Option Int->Option Int->Hp->VK->Prop:=fun x lo hi H Q=>∃a xs,x=.ref a∧H a=some (.tup xs)∧∀p H',Same H H'->H' p=some (.tup (cutV xs lo hi))->Q (.ref p) H'
theorem BZ:SlR X Hq:=by
 intro pins s σ H x v vl vu lo hi sl Q I rx hs pl pu h
 obtain⟨a,xs,rfl,hx,q⟩:=h
 by_cases hw:HT.sIx xs.length 0 lo=0∧HT.sIx xs.length xs.length hi=xs.length
 ·cases rx
  obtain⟨its,r,ht,hz⟩:=I.tuple (SqT.of hx)
  have hlen:its.toArray.size=xs.length:=by rw[List.size_toArray];exact r.length.symm
  refine⟨"tuple",_,PyProof.Rows.slot_tuple_getitem.lookup,ht.typeIs,?_⟩
  refine HT.mK ht hs pl pu (by rw[hlen];exact hw) ⟨.ref a,H,I,rfl,q a H (Same.refl _) (by rw[zc hw];exact hx)⟩
 ·exact sl_tup (X:=X) pins s σ H _ v vl vu lo hi sl Q I rx hs pl pu ⟨a,xs,rfl,SqT.of hx,hw,fun p hp=>q p _ (same_new hp _) upd_same⟩
def Gg:R2:=fun x y H Q=>∃a b xs ys,x=.ref a∧y=.ref b∧H a=some (.tup xs)∧H b=some (.tup ys)∧xs.length+ys.length≤sizeLine∧∀p H',Same H H'->H' p=some (.tup (xs++ys))->Q (.ref p) H'
theorem Br:OpR X (binaryOp .Add) Gg:=by
 intro pins s σ H x y v u Q I rx ry h
 obtain⟨a,b,xs,ys,rfl,rfl,ha,hb,hz,q⟩:=h
 by_cases hx:xs=[]
 ·cases rx
  cases ry
  obtain⟨its,r1,p1,_⟩:=I.tuple (SqT.of ha)
  obtain⟨its2,r2,p2,_⟩:=I.tuple (SqT.of hb)
  exact HT.yU p1 p2 (r1.nil_iff.mpr hx) ⟨.ref b,H,I,rfl,q b H (Same.refl _) (by rw[hx,List.nil_append];exact hb)⟩
 ·exact op_catT (X:=X) pins s σ H _ _ v u Q I rx ry ⟨a,b,xs,ys,rfl,rfl,SqT.of ha,SqT.of hb,hx,hz,fun e=>q a H (Same.refl _) (by rw[e,List.append_nil];exact ha),fun _ p hp=>q p _ (same_new hp _) upd_same⟩
end
mutual
inductive RepF(H:Hp):Bool->V->PyData->Prop
 |non {f:Bool}:RepF H f .non .none
 |bl {f:Bool} (b:Bool):RepF H f (.bl b) (.bool b)
 |int {f:Bool} (i:Int):RepF H f (.int i) (.int i)
 |str {f:Bool} (x:Str):RepF H f (.str x) (.str x)
 |lst {f:Bool}{a:Addr}{xs:List V}{ds:List PyData}:H a=some (.lst xs)->RepsF H f xs ds->RepF H f (.ref a) (.list ds)
 |tup {f:Bool}{a:Addr}{xs:List V}{ds:List PyData}:H a=some (.tup xs)->RepsF H f xs ds->RepF H f (.ref a) (.tuple ds)
 |d0 {a:Addr}:H a=some (.dK [])->RepF H false (.ref a) (.dict [])
 |d1 {a:Addr}{i j:Int}:H a=some (.dK [(.inl i,.int j)])->RepF H false (.ref a) (.dict [(.int i,.int j)])
inductive RepsF(H:Hp):Bool->List V->List PyData->Prop
 |nil {f:Bool}:RepsF H f [] []
 |cons {f:Bool}{v:V}{d:PyData}{vs:List V}{ds:List PyData}:RepF H f v d->RepsF H f vs ds->RepsF H f (v::vs) (d::ds)
end
section
variable{X:Cx}{pins:List (Addr×Obj)}{σ:St}{H:Hp}{s:Shared}
theorem Bj {P:Program}{w:World}{i:Int}{v:Value} (h:(mixKind P w).is (.inl i) v=true):∃ t,v=.int i t:=by
 cases v with
 | int a t=>
   have e:decide (i=a)=true∨decide (a=i)=true∨(a==i)=true∨(i==a)=true:=by
    first | exact .inl h | exact .inr (.inl h) | exact .inr (.inr (.inl h)) | exact .inr (.inr (.inr h))
   have:a=i:=by rcases e with e | e | e | e<;>simp at e<;>omega
   exact⟨t,by rw[this]⟩
 |_=>first | cases h | (simp[mixKind] at h)
mutual
theorem RepF.reads (I:Inv X pins σ H s):∀ {f:Bool}{v:V}{d:PyData}{u:Value},RepF H f v d->RelV v u->∃ as,Reads s.heap u d as∧((∃ l,d=.dict l)->sysModules∉as)
 |_,_,_,_,.non,r=>by cases r;exact⟨_,.none,fun _=>by simp⟩
 |_,_,_,_,.bl b,r=>by cases r;exact⟨_,.bool b,fun _=>by simp⟩
 |_,_,_,_,.int i,r=>by obtain⟨t,rfl⟩:=r;exact⟨_,.int i t,fun _=>by simp⟩
 |_,_,_,_,.str x,r=>by obtain⟨t,rfl⟩:=r;exact⟨_,.str x t,fun _=>by simp⟩
 |_,_,_,_,.lst h hs,r=>by
   cases r
   obtain⟨its,rv,⟨o,n,h1,h2,_,h3⟩,_⟩:=I.list (SqL.of h)
   obtain⟨as,ra⟩:=RepsF.reads I hs rv
   exact⟨_,.list h1 h2 h3 ra,fun z=>nomatch z⟩
 |_,_,_,_,.tup h hs,r=>by
   cases r
   obtain⟨its,rv,⟨o,h1,h2,n,h3⟩,_⟩:=I.tuple (SqT.of h)
   obtain⟨as,ra⟩:=RepsF.reads I hs rv
   exact⟨_,.tuple h1 h2 h3 ra,fun z=>nomatch z⟩
 | _,_,_,_,.d0 (a:=a) h,r=>by
   cases r
   obtain⟨_,hd,vs,r0,⟨o,es,ep,h1,h2,h3,h4,h5,h6⟩⟩:([]:List (Key×V)).length≤sizeLine∧(a==sysModules)=false∧∃vs,KV [] vs∧s.heap.DictOf (mixKind X.prog X.w) a vs:=I.hok a _ h
   cases r0
   have he:es.toList=[]:=by cases hx:es.toList with
    |nil=>rfl
    |cons e es'=>rw[hx] at h5;cases h5
   refine⟨_,.dict (kvs:=[]) h1 h2.1 h3 (by rw[he];exact .nil) (by rw[he];exact .nil),fun _=>?_⟩
   simp only[List.append_nil,List.mem_singleton]
   exact fun z=>(beq_eq_false_iff_ne.mp hd) z.symm
 | _,_,_,_,.d1 (a:=a) (i:=i) (j:=j) h,r=>by
   cases r
   obtain⟨_,hd,vs,r0,⟨o,es,ep,h1,h2,h3,h4,h5,h6⟩⟩:([(Sum.inl i,V.int j)]:List (Key×V)).length≤sizeLine∧(a==sysModules)=false∧∃vs,KV [(Sum.inl i,V.int j)] vs∧s.heap.DictOf (mixKind X.prog X.w) a vs:=I.hok a _ h
   cases r0 with
   | @cons p q ps qs hq t=>
     cases t
     obtain⟨e1,tv,e2⟩:=hq
     obtain⟨q1,q2⟩:=q
     dsimp only at e1 e2
     subst e1 e2
     generalize hx:es.toList=el at h5
     cases h5 with
     |cons g1 g2 g3=>
       cases g3
       rename_i e
       obtain⟨tk,ek⟩:=Bj g1
       dsimp only at g2
       refine⟨_,.dict (kvs:=[(.int i,.int j)]) h1 h2.1 h3 (as:=[]++[]) (bs:=[]++[]) (by rw[hx];exact .cons (by show Reads _ e.key _ _;rw[ek];exact .int i tk) .nil) (by rw[hx];exact .cons (by show Reads _ e.val _ _;rw[g2];exact .int j tv) .nil),fun _=>?_⟩
       simp only[List.append_nil,List.mem_singleton]
       exact fun z=>(beq_eq_false_iff_ne.mp hd) z.symm
theorem RepsF.reads (I:Inv X pins σ H s):∀ {f:Bool}{vs:List V}{ds:List PyData}{us:List Value},RepsF H f vs ds->Vals vs us->∃ as,ReadsAll s.heap us ds as
 |_,_,_,_,.nil,r=>by cases r;exact⟨_,.nil⟩
 | _,_,_,_,.cons h hs,r=>by
   cases r with
   |cons r1 r2=>
     obtain⟨a1,e1,_⟩:=RepF.reads I h r1
     obtain⟨a2,e2⟩:=RepsF.reads I hs r2
     exact⟨_,.cons e1 e2⟩
end
theorem pO{a:Addr}{d:PyData}{as bs:List Addr}{n:Nat}(r:Reads s.heap (.ref a) d as)(hd:d.depth=n+1)(hb:ReadAtMost s.heap n bs):a∉bs∧ReadAtMost s.heap d.depth (a::bs):=
 ⟨not_mem_of_deeper r (by omega) hb,hd ▸ ReadAtMost.cons r (by omega) hb⟩
mutual
theorem RepF.k (I:Inv X pins σ H s):∀ {f:Bool}{v:V}{d:PyData}{u:Value},RepF H f v d->RelV v u->d.showable=true->d.shown.length≤sizeLine->∃ bs,ReadAtMost s.heap d.depth bs∧ReprK X.prog X.w bs s.heap d.depth u d.shown
 |_,_,_,_,.non,r,hs,hz=>by obtain⟨as,ra,_⟩:=RepF.reads (f:=true) I .non r;exact ReprK.of_reads ra hs (fun z=>by simp[PyData.hasDict] at z) hz
 |_,_,_,_,.bl b,r,hs,hz=>by obtain⟨as,ra,_⟩:=RepF.reads (f:=true) I (.bl b) r;exact ReprK.of_reads ra hs (fun z=>by simp[PyData.hasDict] at z) hz
 |_,_,_,_,.int i,r,hs,hz=>by obtain⟨as,ra,_⟩:=RepF.reads (f:=true) I (.int i) r;exact ReprK.of_reads ra hs (fun z=>by simp[PyData.hasDict] at z) hz
 |_,_,_,_,.str x,r,hs,hz=>by obtain⟨as,ra,_⟩:=RepF.reads (f:=true) I (.str x) r;exact ReprK.of_reads ra hs (fun z=>by simp[PyData.hasDict] at z) hz
 |_,_,_,_,.d0 h,r,hs,hz=>by obtain⟨as,ra,n⟩:=RepF.reads I (.d0 h) r;exact ReprK.of_reads ra hs (fun _=>n ⟨_,rfl⟩) hz
 |_,_,_,_,.d1 h,r,hs,hz=>by obtain⟨as,ra,n⟩:=RepF.reads I (.d1 h) r;exact ReprK.of_reads ra hs (fun _=>n ⟨_,rfl⟩) hz
 | _,_,_,_,.lst (ds:=xs) h hs,r,hs',hz=>by
   cases r
   obtain⟨its,rv,⟨o,n,h1,h2,_,h3⟩,_⟩:=I.list (SqL.of h)
   obtain⟨as,ra⟩:=RepsF.reads I hs rv
   have hz':(listText (PyData.shownAll xs)).length≤sizeLine:=by simpa only[PyData.shown] using hz
   obtain⟨bs,hb,hk⟩:=RepsF.k I hs rv (by simpa only[PyData.showable] using hs') fun t ht=>Nat.le_trans (listText_mem_le ht) hz'
   obtain⟨hn,hc⟩:=pO (.list h1 h2 h3 ra) (by simp only[PyData.depth]) hb
   refine⟨_,hc,?_⟩
   simp only[PyData.depth,PyData.shown]
   cases its with
   |nil=>
     cases ra
     simp only[PyData.shownAll,listText_nil]
     exact ReprK.listEmpty h1 h2 h3
   |cons x l=>exact ReprK.list h1 h2 h3 hn (by simpa using hk.length_eq) fun i y e=>hk.item i y (by simpa using e)
 |_,_,_,_,.tup (ds:=xs) h hs,r,hs',hz=>by
   cases r
   obtain⟨its,rv,⟨o,h1,h2,n,h3⟩,_⟩:=I.tuple (SqT.of h)
   obtain⟨as,ra⟩:=RepsF.reads I hs rv
   have hz':(tupleText (PyData.shownAll xs)).length≤sizeLine:=by simpa only[PyData.shown] using hz
   obtain⟨bs,hb,hk⟩:=RepsF.k I hs rv (by simpa only[PyData.showable] using hs') fun t ht=>Nat.le_trans (tupleText_mem_le ht) hz'
   obtain⟨hn,hc⟩:=pO (.tuple h1 h2 h3 ra) (by simp only[PyData.depth]) hb
   refine⟨_,hc,?_⟩
   simp only[PyData.depth,PyData.shown]
   exact ReprK.tuple h1 h2 h3 hn hk
theorem RepsF.k (I:Inv X pins σ H s):∀ {f:Bool}{vs:List V}{ds:List PyData}{us:List Value},RepsF H f vs ds->Vals vs us->PyData.showableAll ds=true->(∀ t∈PyData.shownAll ds,t.length≤sizeLine)->∃ bs,ReadAtMost s.heap (PyData.depthAll ds) bs∧ReprAllK X.prog X.w bs s.heap (PyData.depthAll ds) us (PyData.shownAll ds)
 |_,_,_,_,.nil,r,_,_=>by cases r;exact⟨[],(fun _ h=>nomatch h),by simp only[PyData.shownAll];exact .nil⟩
 | _,_,_,_,.cons (d:=d) (ds:=ds) h hs,r,hs',hz=>by
   cases r with
   |cons r1 r2=>
     have hh:d.showable=true∧PyData.showableAll ds=true:=by simpa[PyData.showableAll] using hs'
     obtain⟨b1,q1,k1⟩:=RepF.k I h r1 hh.1 (hz _ (by simp only[PyData.shownAll];exact .head _))
     obtain⟨b2,q2,k2⟩:=RepsF.k I hs r2 hh.2 fun t ht=>hz t (by simp only[PyData.shownAll];exact .tail _ ht)
     simp only[PyData.depthAll,PyData.shownAll]
     exact⟨b1++b2,(q1.mono (Nat.le_max_left _ _)).append (q2.mono (Nat.le_max_right _ _)),.cons ((k1.more fun b hb=>List.mem_append_left _ hb).level_le (Nat.le_max_left _ _)) (k2.more_le (fun b hb=>List.mem_append_right _ hb) (Nat.le_max_right _ _))⟩
end
end
mutual
/-- the same,away from a -/
theorem RepF.toRep{K:PySem.W.Frag}{H:Hp}:∀{v:V}{d:PyData},RepF H true v d->Rep K H v d
 |_,_,.non=>.non
 |_,_,.bl b=>.bl b
 |_,_,.int i=>.int i
 |_,_,.str x=>.str x
 |_,_,.lst h hs=>.lst (SqL.of h) (RepsF.toReps hs)
 |_,_,.tup h hs=>.tup (SqT.of h) (RepsF.toReps hs)
theorem RepsF.toReps{K:PySem.W.Frag}{H:Hp}:∀{vs:List V}{ds:List PyData},RepsF H true vs ds->Reps K H vs ds
 |_,_,.nil=>.nil
 |_,_,.cons h hs=>.cons (RepF.toRep h) (RepsF.toReps hs)
end
mutual
def bB:PyData->Nat
 |.none | .bool _=>5
 |.int _=>1921
 |.str x=>(reprText x).length
 |.list xs | .tuple xs=>dq xs+3
 |.dict _=>8000
def dq:List PyData->Nat
 |[]=>0
 |x::xs=>bB x+2+dq xs
end
theorem f9:∀xs:List PyData,(PyData.shownAll xs).length=xs.length
 |[]=>by simp only[PyData.shownAll,List.length_nil]
 |x::xs=>by simp only[PyData.shownAll,List.length_cons,f9 xs]
mutual
theorem jU {H:Hp}:∀ {f:Bool}{v:V}{d:PyData},RepF H f v d->d.showable=true->d.shown.length≤bB d
 |_,_,_,.non,_=>by simp only[PyData.shown,bB];decide +kernel
 |_,_,_,.bl b,_=>by cases b<;>simp only[PyData.shown,bB]<;>decide +kernel
 |_,_,_,.int i,h=>by
   have h':i.natAbs.log2<1920:=by simpa[PyData.showable] using h
   simp only[PyData.shown,bB]
   exact int_text_len_1921 h'
 |_,_,_,.str x,_=>by simp only[PyData.shown,bB];exact Nat.le_refl _
 |_,_,_,.lst (ds:=xs) _ hs,h=>by
   have:=fZ hs (by simpa only[PyData.showable] using h)
   have l:=listText_len_le (PyData.shownAll xs)
   rw[f9] at l
   simp only[PyData.shown,bB]
   omega
 |_,_,_,.tup (ds:=xs) _ hs,h=>by
   have:=fZ hs (by simpa only[PyData.showable] using h)
   have l:=tupleText_len_le (PyData.shownAll xs)
   rw[f9] at l
   simp only[PyData.shown,bB]
   omega
 |_,_,_,.d0 _,_=>by simp only[PyData.shown,PyData.shownKv,bB];decide +kernel
 |_,_,_,.d1 (i:=i) (j:=j) _,h=>by
   have h':i.natAbs.log2<1920∧j.natAbs.log2<1920:=by simpa[PyData.showable,PyData.showableKv] using h
   have l1:=int_text_len_1921 h'.1
   have l2:=int_text_len_1921 h'.2
   have l:=dictText_len_le (PyData.shownKv [(.int i,.int j)])
   simp only[PyData.shown,bB]
   refine Nat.le_trans l ?_
   simp only[PyData.shownKv,PyData.shown,List.map_cons,List.map_nil,List.sum_cons,List.sum_nil,List.length_cons,List.length_nil,strLen_append]
   have l3:(Str.ofString ": ").length=2:=by decide +kernel
   have l3':(": ":Str).length=2:=by decide +kernel
   omega
theorem fZ {H:Hp}:∀ {f:Bool}{vs:List V}{xs:List PyData},RepsF H f vs xs->PyData.showableAll xs=true->((PyData.shownAll xs).map (·.length)).sum + 2 * xs.length≤dq xs
 |_,_,_,.nil,_=>by simp only[PyData.shownAll,List.map_nil,List.sum_nil,List.length_nil,dq];omega
 |_,_,_,.cons (d:=x) (ds:=xs) hx hs,h=>by
   have h':x.showable=true∧PyData.showableAll xs=true:=by simpa[PyData.showableAll] using h
   have a:=jU hx h'.1
   have b:=fZ hs h'.2
   simp only[PyData.shownAll,List.map_cons,List.sum_cons,List.length_cons,dq]
   omega
end
section
variable{X:Cx}
def Eg:List V->Hp->VK->Prop:=fun xs H Q=>∃f v d,xs=[v]∧RepF H f v d∧d.showable=true∧d.depth≤60∧bB d≤sizeLine∧Q (.str d.shown) H
theorem vh (hg:X.A.guards=some []) (hu:X.A.units + 64<cLine):CallR X (.builtin "repr") Eg:=by
 intro pins s σ H xs us Q I r h
 obtain⟨f,v,d,rfl,rd,ho,hd,hz,q⟩:=h
 have hz':=Nat.le_trans (jU rd ho) hz
 obtain⟨u,rfl,ru⟩:=vals1 r
 cases rd with
 |non=>cases ru;exact P.repr_of_none ⟨.str _,H,I.tok _,⟨_,rfl⟩,(by simpa only[PyData.shown] using q)⟩
 |bl b=>cases ru;exact P.repr_of_bool ⟨.str _,H,I.tok _,⟨_,rfl⟩,(by simpa only[PyData.shown] using q)⟩
 |int i=>
   obtain⟨t,rfl⟩:=ru
   exact P.repr_of_int (by simpa[PyData.showable] using ho) ⟨.str _,H,I.tok _,⟨_,rfl⟩,(by simpa only[PyData.shown] using q)⟩
 |str x=>
   obtain⟨t,rfl⟩:=ru
   exact P.repr_of_str ⟨.str _,H,I.tok _,⟨_,rfl⟩,(by simpa only[PyData.shown] using q)⟩ (by simpa only[PyData.shown] using hz')
 | lst h hs=>
   cases ru
   obtain⟨its,rv,⟨o,n,h1,h2,_,h3⟩,_⟩:=I.list (SqL.of h)
   obtain⟨as,ra⟩:=RepsF.reads I hs rv
   simp only[PyData.shown] at hz' q
   obtain⟨bs,hb,hk⟩:=RepsF.k I hs rv (by simpa only[PyData.showable] using ho) fun t ht=>Nat.le_trans (listText_mem_le ht) hz'
   simp only[PyData.depth] at hd
   refine call_repr_slot (by omega) ⟨_,h1,h2⟩ F.slot_list_repr.toG ?_
   cases its with
   |nil=>
     cases ra
     simp only[PyData.shownAll,listText_nil] at q
     exact call_list_repr_empty ⟨o,h1,h2⟩ h1 h3 ⟨_,_,rfl,.str _,H,I.kept fun _ _ e=>e,⟨_,rfl⟩,q⟩
   |cons x l=>
     exact call_list_reprK h1 h2 h3 (pO (.list h1 h2 h3 ra) (by simp only[PyData.depth]) hb).1 (by simpa using hk.length_eq) (fun i y e=>hk.item i y (by simpa using e)) hg (fun b _=>Clear.nil b) (by show X.A.units+1+_<_;omega) (fun _ _ e=>e) (fun h' u tk hk=>⟨_,_,rfl,.str _,H,I.kept hk,⟨_,rfl⟩,q⟩) hz'
 |tup h hs=>
   cases ru
   obtain⟨its,rv,⟨o,h1,h2,n,h3⟩,_⟩:=I.tuple (SqT.of h)
   obtain⟨as,ra⟩:=RepsF.reads I hs rv
   simp only[PyData.shown] at hz' q
   obtain⟨bs,hb,hk⟩:=RepsF.k I hs rv (by simpa only[PyData.showable] using ho) fun t ht=>Nat.le_trans (tupleText_mem_le ht) hz'
   simp only[PyData.depth] at hd
   refine call_repr_slot (by omega) ⟨_,h1,h2⟩ F.slot_tuple_repr ?_
   exact call_tuple_reprK h1 h2 h3 (pO (.tuple h1 h2 h3 ra) (by simp only[PyData.depth]) hb).1 hk hg (fun b _=>Clear.nil b) (by show X.A.units+1+_<_;omega) (fun _ _ e=>e) (fun h' u tk hk=>⟨_,_,rfl,.str _,H,I.kept hk,⟨_,rfl⟩,q⟩) hz'
 |d0 h=>
   obtain⟨as,ra,nn⟩:=RepF.reads I (.d0 h) ru
   cases ru
   exact repr_of_reads' ra ho (fun _=>nn ⟨_,rfl⟩) hg (by omega) (fun _ _ e=>e) (fun h' u tk hk=>⟨.str _,H,I.kept hk,⟨_,rfl⟩,q⟩) hz'
 |d1 h=>
   obtain⟨as,ra,nn⟩:=RepF.reads I (.d1 h) ru
   cases ru
   exact repr_of_reads' ra ho (fun _=>nn ⟨_,rfl⟩) hg (by omega) (fun _ _ e=>e) (fun h' u tk hk=>⟨.str _,H,I.kept hk,⟨_,rfl⟩,q⟩) hz'
end
theorem Hn{X:Cx}{x:Str}{T:String}{r:List V->Hp->VK->Prop}{p pos:Pos}{e:Expr}{es:List Expr}{t:TA}(hc:CallR X (.type T) r)(hm:X.mg x=none)(ha:PA X (e::es) t)(hg:Gl X x:=by rfl)(hv:bootBuiltins x=some (.type T):=by decide +kernel)(hn:x≠"__name__":=by decide)(hdb:(x==("__debug__":Str))=false:=by decide)
  (he:starEach (e::es) X.env=(false,eval e X.env)::starEach es X.env:=by rfl) (hpl:(backTo pos (starEach es X.env)).any (·.1)=false:=by rfl) :
  PE X (.Call (.Name x p) (e::es) [] pos) (tCB r t):=pe_callTy hc hg hm hv ha hn hdb he hpl
def notStar:Expr->Bool
 |.Starred _ _=>false
 |_=>true
theorem bz{e:Expr}{es:List Expr}{env:Env}(h:notStar e=true):starEach (e::es) env=(false,eval e env)::starEach es env:=by
 cases e<;>first | rfl | cases h
theorem Hl{X:Cx}{e:Expr}{es:List Expr}{te:TE}{t:TA}(ha:PE X e te)(hr:PA X es t)(hs:notStar e=true:=by rfl):PA X (e::es) (tCons te t):=pa_cons ha hr (bz hs)
structure QI(X:Cx)(tg l:Expr)(wi:TI):Prop where
 h:PI X tg l wi
structure QA(X:Cx)(es:List Expr)(t:TA):Prop where
 h:PA X es t
theorem Ef{X:Cx}:QA X [] tNil:=⟨pa_nil⟩
theorem Ho{X:Cx}{e:Expr}{es:List Expr}{te:TE}{t:TA}(ha:PE X e te)(hr:QA X es t)(hs:notStar e=true:=by rfl):QA X (e::es) (tCons te t):=⟨Hl ha hr.h hs⟩
section
variable{X:Cx}{j k:Nat}{ps:List Str}{sp:Sp}{x:Str}{p pos:Pos}{e:Expr}{es:List Expr}{t:TA}{E:XK}
theorem BL{x1}(h:QA X es t):PE X (.Tuple es x1 pos) (tTup t):=pe_tup h.h
theorem uE(h:QA X es t):PE X (.List es pos) (tLst t):=pe_lst h.h
theorem xT(D:DefC X.prog X.w X.K X.mg X.base j x ps sp)(hr:Room k X.A)(hx:Passes (cM X.prog X.w) X E)(ha:QA X (e::es) t)(hjk:j≤k:=by decide)(hg:Gl X x:=by rfl)(hdb:(x==("__debug__":Str))=false:=by decide)
  (he:notStar e=true:=by rfl) (hpl:(backTo pos (starEach es X.env)).any (·.1)=false:=by rfl) :
  PE X (.Call (.Name x p) (e::es) [] pos) (tCall sp [] E t):=zK D hr hx ha.h hjk hg hdb (bz he) hpl
theorem Ga{id:String}{r:List V->Hp->VK->Prop}(hc:CallR X (.builtin id) r)(hm:X.mg x=none)(ha:QA X (e::es) t)(hg:Gl X x:=by rfl)(hv:bootBuiltins x=some (.builtin id):=by decide +kernel)(hn:x≠"__name__":=by decide)(hdb:(x==("__debug__":Str))=false:=by decide)
  (he:notStar e=true:=by rfl) (hpl:(backTo pos (starEach es X.env)).any (·.1)=false:=by rfl) :
  PE X (.Call (.Name x p) (e::es) [] pos) (tCB r t):=Hm hc hm ha.h hg hv hn hdb (bz he) hpl
theorem Ge{T:String}{r:List V->Hp->VK->Prop}(hc:CallR X (.type T) r)(hm:X.mg x=none)(ha:QA X (e::es) t)(hg:Gl X x:=by rfl)(hv:bootBuiltins x=some (.type T):=by decide +kernel)(hn:x≠"__name__":=by decide)(hdb:(x==("__debug__":Str))=false:=by decide)
  (he:notStar e=true:=by rfl) (hpl:(backTo pos (starEach es X.env)).any (·.1)=false:=by rfl) :
  PE X (.Call (.Name x p) (e::es) [] pos) (tCB r t):=Hn hc hm ha.h hg hv hn hdb (bz he) hpl
theorem DY {T name id:String}{r:V->List V->Hp->VK->Prop}{o:Expr}{to:TE}{apos cpos:Pos} (pa:PlainAttrs T) (slot:Slot T name id) (hty:typeOf (.builtin id)=pure (.type "method_descriptor")) (hm:MtR X id r) (ho:PE X o to) (ha:QA X (e::es) t)
  (hbase:attributeBase o name X.env (eval o X.env)=eval o X.env:=by rfl)
  (hfew:((backTo cpos (starEach (e::es) X.env)).all (fun x=>!x.1)&&(backToKw cpos (keywordEach [] X.env)).all (fun x=>x.1.isSome)
   &&decide ((e::es).length+([]:List Keyword).length+(if ([]:List Keyword).isEmpty then 0 else 1)<30))=true:=by rfl)
  (hline:(apos.endLine==cpos.line)=true:=by rfl) (hs:notStar e=true:=by rfl) (hplain:(backTo cpos (starEach es X.env)).any (·.1)=false:=by rfl) :
  PE X (.Call (.Attribute o name apos) (e::es) [] cpos) (tBM X.K T r to t):=pe_bm pa slot hty hm ho ha.h hbase hfew hline (bz hs) hplain
theorem vL{tg a:Expr}{ta:TA}(hg:Gl X "range")(hm:X.mg "range"=none)(ha:QA X [a] ta)(hs:notStar a=true:=by rfl):QI X tg (.Call (.Name "range" p) [a] [] pos) (iRng1 ta):=⟨pi_range1 hg hm ha.h (bz hs)⟩
end
def rN{α:Type}(P:α->Prop):List α->Prop
 |[]=>True
 |a::l=>P a∧rN P l
theorem jB {α:Type}{P:α->Prop}:∀ {l:List α},rN P l->∀ a∈l,P a
 |[],_,_,h=>nomatch h
 |b::l,h,a,hm=>by
   rcases List.mem_cons.mp hm with rfl | hm
   ·exact h.1
   ·exact jB h.2 a hm
theorem mem_of_lookup {β:Type}{y:Str}{c:β}:∀ {l:List (Str×β)},l.lookup y=some c->(y,c)∈l
 |[],h=>by cases h
 | (z,d)::l,h=>by
   rw[List.lookup_cons] at h
   split at h
   ·rename_i e
    have e':y=z:=by simpa using e
    cases h
    rw[e'];exact List.mem_cons_self ..
   ·exact List.mem_cons_of_mem _ (mem_of_lookup h)
theorem Fb{cl cells:List (Str×Addr)}(h:rN (fun p=>cells.lookup p.1=some p.2) cl):∀y c,cl.lookup y=some c->cells.lookup y=some c:=fun y c e=>jB h (y,c) (mem_of_lookup e)
def zu:NameKind->Bool
 |.cell | .free=>true
 |_=>false
theorem CZ{names:List (Str×NameKind)}{cl:List (Str×Addr)}(h:(names.all fun p=>!zu p.2 || (cl.lookup p.1).isSome)=true):∀y,(names.lookup y=some .cell∨names.lookup y=some .free)->∃c,cl.lookup y=some c:=fun y e=>by
 have hh:=List.all_eq_true.mp h
 rcases e with e | e
 ·have:=hh _ (mem_of_lookup e)
  simp only[zu,Bool.not_true,Bool.false_or] at this
  exact Option.isSome_iff_exists.mp this
 ·have:=hh _ (mem_of_lookup e)
  simp only[zu,Bool.not_true,Bool.false_or] at this
  exact Option.isSome_iff_exists.mp this
theorem CV{js:List Nat}{fr:List Str}{P:Nat->Str->Prop}(h:rN (fun p:Nat×Str=>P p.1 p.2) (js.zip fr)):∀(k j:Nat) (y:Str),js[k]?=some j->fr[k]?=some y->P j y:=fun k j y h1 h2=>by
 refine jB h (j,y) (List.mem_iff_getElem?.mpr ⟨k,?_⟩)
 rw[List.getElem?_zip_eq_some]
 exact⟨h1,h2⟩
section
variable{X:Cx}
def jY:V->Bool
 |.bl b=>b
 |.int i=>i != 0
 |_=>false
def scS:V->Bool
 |.bl _=>true
 |.int _=>true
 |_=>false
theorem yL{prog:Program}{w:World}{A:Around}{E:Value->Shared->Prop}{s:Shared}{v:V}{u:Value}{Q:Bool->Shared->Prop}(h:scS v=true)(r:RelV v u)(q:Q (jY v) s):wpAny (model prog w) A (truthy u) Q E s:=by
 cases v with
 |bl b=>cases r;exact wpAny_truthy_bool q
 |int i=>obtain⟨t,rfl⟩:=r;exact PyProof.Rows.truthy_int q
 |_=>cases h
theorem range_all{xs:List V}{tr:Nat->Bool}(h:∀(i:Nat) (x:V),xs[i]?=some x->tr i=jY x):(List.range xs.length).all tr=xs.all jY:=by
 rw[Bool.eq_iff_iff,List.all_eq_true,List.all_eq_true]
 constructor
 ·intro q x hx
  obtain⟨i,hi,e⟩:=List.mem_iff_getElem.mp hx
  have:=q i (List.mem_range.mpr hi)
  rw[h i x (by rw[List.getElem?_eq_getElem hi,e])] at this
  exact this
 ·intro q i hi
  have hi':=List.mem_range.mp hi
  rw[h i xs[i] (List.getElem?_eq_getElem hi')]
  exact q _ (List.getElem_mem hi')
theorem GQ{prog:Program}{w:World}{A:Around}{xs:List V}{its:List Value}(rv:Vals xs its)(hs:∀x∈xs,scS x=true):TruthOf prog w A (fun i v=>its.toArray[i]?=some v) (fun i=>jY (xs[i]?.getD .non)):=by
 intro i v s Q E hP hQ
 have e:its[i]?=some v:=by simpa using hP
 have hl:=rv.length
 have hi:i<xs.length:=by rw[hl];exact (List.getElem?_eq_some_iff.mp e).1
 obtain⟨u,e2,r⟩:=rv.get (List.getElem?_eq_getElem hi)
 rw[e] at e2
 cases e2
 refine yL (hs _ (List.getElem_mem hi)) r ?_
 have hQ':Q (jY (xs[i]?.getD V.non)) s:=hQ
 rw[List.getElem?_eq_getElem hi] at hQ'
 exact hQ'
theorem yR(hh:X.A.handled=none):CallR X (.builtin "all") (fun vs H Q=>∃l xs,vs=[.ref l]∧H l=some (.lst xs)∧(∀x∈xs,scS x=true)∧Q (.bl (xs.all jY)) H):=by
 intro pins s σ H vs us Q I r h
 obtain⟨l,xs,rfl,hH,hs,q⟩:=h
 obtain⟨u,rfl,ru⟩:=vals1 r
 cases ru
 obtain⟨its,rv,p,hz⟩:=I.list (SqL.of (K:=X.K) hH)
 have hl:l<s.heap.objs.size:=by obtain⟨o,n,e,_⟩:=p;exact Heap.lt_size e
 refine call_all_walk (wpAny_pyIter_list p.isList ?_)
 refine⟨s.heap.objs.size,[s.heap.objs.size,l],[s.heap.objs.size],its.toArray.size,fun i v=>its.toArray[i]?=some v,fun i h=>h.IsListIter s.heap.objs.size l i∧h.IsList l its.toArray,fun i=>jY (xs[i]?.getD .non),rfl,Walks.list (A:=X.A.in1) hh s.heap.objs.size l (Nat.ne_of_lt hl) its.toArray,⟨⟨_,Heap.get?_push_size _ rfl,rfl,rfl⟩,p.isList.at fun o e=>Heap.get?_push_of_some _ e⟩,GQ rv hs,fun h' tk hk=>?_⟩
 refine⟨.bl (xs.all jY),H,I.kept fun b o e=>hk b o (fun z=>?_) (Heap.get?_push_of_some _ e),?_,q⟩
 ·have:b=s.heap.objs.size:=by simpa using z
  exact absurd (Heap.lt_size e) (by rw[this];exact Nat.lt_irrefl _)
 ·rw[show its.toArray.size=xs.length by rw[List.size_toArray];exact rv.length.symm]
  show Value.bool _=Value.bool _
  rw[range_all fun i x e=>by rw[e];rfl]
def Hx(tv:TE):TE:=fun σ H Q=>tv σ H fun x H1=>∃i:Int,x=.int i∧i.natAbs.log2<1920∧Q (.str (toString i)) H1
theorem Eb{e:Expr}{tv:TE}{pos:Pos}(he:PE X e tv):PE X (.FormattedValue e (-1) none pos) (Hx tv):=by
 intro pins s σ H Q I h
 refine FormattedValue_plain (thn (he pins s σ H _ I h) fun v s1 ⟨x,H1,I1,r1,q1⟩=>?_)
 obtain⟨i,rfl,hl,q⟩:=q1
 obtain⟨t,rfl⟩:=r1
 exact wpAny_formatField_int hl ⟨.str _,H1,I1.tok _,⟨_,rfl⟩,q⟩
def Fe(ta tb tc:TE):TE:=fun σ H Q=>ta σ H fun x H1=>∃a:Str,x=.str a∧a.length≤sizeLine∧tb σ H1 fun y H2=>∃b:Str,y=.str b∧a.length+b.length≤sizeLine∧tc σ H2 fun z H3=>∃c:Str,z=.str c∧a.length+b.length+c.length≤sizeLine∧Q (.str (Str.empty++a++b++c)) H3
theorem zL{a b c:Expr}{ta tb tc:TE}{pos:Pos}(ha:PE X a ta)(hb:PE X b tb)(hc:PE X c tc):PE X (.JoinedStr [a,b,c] pos) (Fe ta tb tc):=by
 intro pins s σ H Q I h
 have el:∀y:Str,(Str.empty++y).length=y.length:=fun y=>by rw[strLen_append];show 0+y.length=y.length;omega
 refine JoinedStr_many (joinParts_cons (thn (ha pins s σ H _ I h) fun v s1 ⟨x,H1,I1,r1,q1⟩=>?_))
 obtain⟨sa,rfl,la,q1⟩:=q1
 obtain⟨t,rfl⟩:=r1
 refine⟨by rw[el];exact la,joinParts_cons (thn (hb pins s1 σ H1 _ I1 q1) fun v s2 ⟨y,H2,I2,r2,q2⟩=>?_)⟩
 obtain⟨sb,rfl,lb,q2⟩:=q2
 obtain⟨t2,rfl⟩:=r2
 refine⟨by rw[strLen_append,el];exact lb,joinParts_cons (thn (hc pins s2 σ H2 _ I2 q2) fun v s3 ⟨z,H3,I3,r3,q3⟩=>?_)⟩
 obtain⟨sc,rfl,lc,q3⟩:=q3
 obtain⟨t3,rfl⟩:=r3
 have l3:(Str.empty++sa++sb++sc).length≤sizeLine:=by rw[strLen_append,strLen_append,el];exact lc
 exact⟨l3,joinParts_nil ⟨.str _,H3,I3.tok _,⟨_,rfl⟩,q3⟩ l3⟩
theorem nW:fillsNumberSlot (.type "tuple") "mul"=pure false:=
 PySem.fillsNumberSlot_seq (id := "tuple.__mul__") (r:=some (.builtin "tuple.__rmul__")) F.slot_tuple_mul.lookup (by decide +kernel) F.slot_tuple_rmul.lookup (by decide +kernel)
theorem tQ:seqRepeat? (.type "tuple")=pure (some (.builtin "tuple.__mul__")):=by
 unfold seqRepeat?
 rw[PySem.seqSlot_of (T := "tuple") (name := "__mul__") (id := "tuple.__mul__") F.slot_tuple_mul.lookup (by decide +kernel),PySem.seqSlot_of (T := "tuple") (name := "__rmul__") (id := "tuple.__rmul__") F.slot_tuple_rmul.lookup (by decide +kernel)]
 rfl
theorem vR(a:Int)(t:Tok)(l:Addr)(items:Array Value)(n:Nat)(dd:Option Addr)(sl:Array (Option Value)) :
  Meets (Builtin.«int.__rmul__» ⟨[.int a t,.ref l],[]⟩) (fun _ R s=>s.heap.get? l=some { cls:=.type "tuple",dict:=dd,data:=.seq items n,slots:=sl }∧R (.ok (.ret Value.notImplemented)) s):=
 .of_wp fun prog w A R s h=>by obtain⟨hp,g,d,tk,os⟩:=s;obtain⟨hl,h⟩:=h;wp_walk;exact⟨_,rfl,h⟩
open PySem.AutoSeq1 (wpAny_loadPart') in
theorem FQ(l:Addr)(items:Array Value)(n:Nat)(dd:Option Addr)(sl:Array (Option Value))(t:Tok) :
  Meets (Builtin.«tuple.__mul__» ⟨[.ref l,.int 1 t],[]⟩) (fun _ R s=>s.heap.get? l=some { cls:=.type "tuple",dict:=dd,data:=.seq items n,slots:=sl }∧R (.ok (.ret (.ref l))) s):=
 .of_wp fun prog w A R s h=>by
  obtain⟨hp,g,d,tk,os⟩:=s;obtain⟨hl,h⟩:=h
  have f1:=AutoSeq1.idx_int
  have f2:=AutoSeq1.sub_tuple_tuple
  unfold Builtin.«tuple.__mul__»
  wp_walk using wpAny_loadPart' hl
  exact⟨_,rfl,h⟩
open PySem.AutoSeq1 (wpAny_loadPart') in
theorem FW (l:Addr) (items:Array Value) (n:Nat) (dd:Option Addr) (sl:Array (Option Value)) (k:Int) (t:Tok) (h0:¬(decide (k < -2 ^ 63) || decide (k ≥ 2 ^ 63))=true) (h1:¬(items.isEmpty || k == 1)=true) (h2:¬(decide (k≤0) || items.isEmpty)=true)
  (h3:¬((items.size:Int)*k > (2^63-1) / 8)) (h4:¬Builtin.Tuple.tupleTooMany ((items.size:Int)*k)=true) (h5:sizeOk (.seq (List.foldl (fun x1 x2=>x1++x2) #[] (List.replicate k.toNat items)))) :
  Meets (Builtin.«tuple.__mul__» ⟨[.ref l,.int k t],[]⟩) (fun _ R s=>s.heap.get? l=some { cls:=.type "tuple",dict:=dd,data:=.seq items n,slots:=sl } ∧
   R (.ok (.ret (.ref s.heap.objs.size))) { s with heap:=s.heap.push { cls:=.type "tuple",data:=.seq (List.foldl (fun x1 x2=>x1++x2) #[] (List.replicate k.toNat items)) } }):=
 .of_wp fun prog w A R s h=>by
  obtain⟨hp,g,d,tk,os⟩:=s;obtain⟨hl,h⟩:=h
  have f1:=AutoSeq1.idx_int
  have f2:=AutoSeq1.sub_tuple_tuple
  unfold Builtin.«tuple.__mul__»
  wp_walk using wpAny_loadPart' hl
  rw[if_neg h0]
  wp_walk using wpAny_loadPart' hl
  rw[if_neg h3]
  wp_walk using wpAny_loadPart' hl
  rw[if_neg (show ¬ _ > sizeLine from Nat.not_lt.mpr h5)]
  wp_walk using wpAny_loadPart' hl
  all_goals first | exact⟨_,rfl,h⟩ | assumption
def Gj:R2:=fun x y H Q=>∃(l:Addr) (c:V) (k:Int),x=.ref l∧y=.int k∧H l=some (.tup [c])∧1≤k∧k≤1000∧∀p H',Same H H'->H' p=some (.tup (List.replicate k.toNat c))->Q (.ref p) H'
theorem By:OpR X (binaryOp .Mult) Gj:=by
 intro pins s σ H x y v u Q I rx ry h
 obtain⟨l,c,k,rfl,rfl,hH,h1,h2,q⟩:=h
 cases rx
 obtain⟨t,rfl⟩:=ry
 obtain⟨its,r,⟨⟨cls,dd,data,sl⟩,e,hc,n,hd⟩,hz⟩:=I.tuple (SqT.of (K:=X.K) hH)
 simp only at hc hd
 subst hc hd
 obtain⟨u,rfl,ru⟩:=vals1 r
 have ty:s.TypeIs (.ref l) "tuple":=⟨_,e,rfl⟩
 refine wpAny_binaryOp_repeat_ref (T := "tuple") (U := "int") (by decide) ty (fun s'=>typeIs_int s' k t) nW F.fills_int_mul F.slot_int_rmul tQ F.slot_int_index.lookup
  (call_meets F.slot_int_rmul (typeIs_int s k t) F.entry_int_rmul (F.args_int_rmul_2 _ _) (vR k t l _ n dd sl) ⟨e,rfl,ty,?_⟩)
 by_cases hk:k=1
 ·subst hk
  refine call_meets F.slot_tuple_mul ty F.entry_tuple_mul (F.args_tuple_mul_2 _ _) (FQ l _ n dd sl t) ⟨e,?_⟩
  exact⟨.ref l,H,I,rfl,q l H (Same.refl _) hH⟩
 ·have fl:List.foldl (fun x1 x2=>x1++x2) #[] (List.replicate k.toNat #[u])=(List.replicate k.toNat u).toArray:=by
   have:=foldl_rep [u] k.toNat []
   rw[List.nil_append] at this
   rw[this]
   have e2:∀m:Nat,(List.replicate m [u]).flatten=List.replicate m u:=fun m=>by
    induction m with
    |zero=>rfl
    |succ m ih=>rw[List.replicate_succ,List.flatten_cons,ih,List.replicate_succ];rfl
   rw[e2]
  refine call_meets F.slot_tuple_mul ty F.entry_tuple_mul (F.args_tuple_mul_2 _ _) (FW l #[u] n dd sl k t ?_ ?_ ?_ ?_ ?_ ?_) ⟨e,?_⟩
  ·simp;omega
  ·simp[hk]
  ·simp;omega
  ·show ¬ (((1:Nat):Int)*k > (2^63-1) / 8);omega
  ·unfold Builtin.Tuple.tupleTooMany;rw[sizeLine_eq];show ¬ decide (((1:Nat):Int)*k > _)=true;simp;omega
  ·show (List.foldl (fun x1 x2=>x1++x2) #[] (List.replicate k.toNat #[u])).size≤sizeLine
   rw[fl,List.size_toArray,List.length_replicate,sizeLine_eq];omega
  rw[fl]
  have rr:∀m:Nat,Vals (List.replicate m c) (List.replicate m u):=fun m=>by
   induction m with
   |zero=>exact .nil
   |succ m ih=>rw[List.replicate_succ,List.replicate_succ];exact .cons ru ih
  refine⟨.ref s.heap.objs.size,_,I.laid (t':=s.toks) (o:=.tup (List.replicate k.toNat c)) (fun b ob q=>Heap.get?_push_of_some _ q) (Nat.le_refl _) ?_,rfl,q _ _ (same_new (I.hok.fresh (Nat.le_refl _)) _) upd_same⟩
  exact⟨by rw[List.length_replicate,sizeLine_eq];omega,_,rr _,IsTup.new _ _⟩
theorem Gb{x:Str}{i:Int}{t:Tok}{pos:Pos}(h:X.mg x=some (.int i t))(hg:Gl X x:=by rfl)(hd:(x==("__debug__":Str))=false:=by decide):PE X (.Name x pos) (tC (.int i)):=pe_glob hg h ⟨t,rfl⟩ hd
end
structure MethAt(K:PySem.W.Frag)(C:Addr)(x qual:Str)(st:Stmt):Prop where
 ex:∃f fd,Fun K x qual st f fd∧PySem.W.findIn K (.ref C) x=some (some (.ref f))∧PySem.W.isFn K (.ref f)=true
structure MethC(P:Program)(w:World)(K:PySem.W.Frag)(mg:Str->Option Value)(base:Heap)(k:Nat)(C:Addr)(x:Str)(ps:List Str)(sp:Sp):Prop where
 ex:∃f fd,FnOk P w K mg base (cM P w) k f fd ps sp∧Binds K fd ps []∧PySem.W.keepIn K (.ref f)=true∧PySem.W.findIn K (.ref C) x=some (some (.ref f))∧PySem.W.isFn K (.ref f)=true
theorem xJ{K:PySem.W.Frag}{C:Addr}{x qual:Str}{st:Stmt}{f:Addr}{oc:Value}{od an:Option Addr}{osl:Array (Option Value)}{kV doc pm cdv ct:Value}
  (a:PySem.W.findIn K (.ref C) x=some (some (.ref f))) (n:PySem.W.isFn K (.ref f)=true) (l:K.lookup f=some ⟨oc,od,.func (PySem.W.fnOf x qual (defArgs st) (defBody st) (defScope st) .none kV doc pm an cdv ct),osl⟩) (c:PySem.W.codeIn K cdv qual=true) (k:PySem.W.keepIn K (.ref f)=true):MethAt K C x qual st:=
 ⟨f,_,fun_mk l c k,a,n⟩
section
variable{P:Program}{w:World}{K:PySem.W.Frag}{mg:Str->Option Value}{base:Heap}{k:Nat}{C:Addr}{x qual:Str}{N ps:List Str}{sp:Sp}{st:Stmt}
theorem Hc {f:Addr}{fd:FuncData} (F:Fun K x qual st f fd) (S:FnScope N ps (defScope st)) (len:∀ vs H Q E,sp vs H Q E->vs.length=ps.length)
  (hbody:∀(cdv:Value) (A:Around) (outer:List Env) (s:Shared) (H:Hp) (vs:List V) (Q:VK) (E:XK),Room k (A.deeper (envOfC qual (defScope st) s.heap.objs.size f cdv))->sp vs H Q E->
    ∃t,PSs (bK P w K mg base N qual (defScope st) f cdv A outer s H E) (defBody st) t∧t { nx:=fun _ H'=>Q .non H',rt:=Q } (start N vs) H):FnOk P w K mg base (cM P w) (k+1) f fd ps sp:=by
 obtain⟨oc,od,kV,doc,pm,an,cdv,ct,osl,rfl,l,c⟩:=F.ex
 exact fn_of l c S len (hbody cdv)
end
section
variable{X:Cx}{j k:Nat}{C:Addr}{ps:List Str}{sp:Sp}{x:Str}{p pos:Pos}{e:Expr}{es:List Expr}{t:TA}{E:XK}
theorem zN(D:MethC X.prog X.w X.K X.mg X.base j C "__init__" ps sp)(mk:PySem.W.makesIn X.K C=true)(kc:PySem.W.keepIn X.K (.ref C)=true)(hm:X.mg x=some (.ref C))(hr:Room k X.A)(hx:Passes (cM X.prog X.w) X E)(ha:QA X (e::es) t)(hjk:j+1≤k:=by decide)(hg:Gl X x:=by rfl)(hdb:(x==("__debug__":Str))=false:=by decide)
  (he:notStar e=true:=by rfl) (hpl:(backTo pos (starEach es X.env)).any (·.1)=false:=by rfl) :
  PE X (.Call (.Name x p) (e::es) [] pos) (tMake C sp [] E t):=by
 obtain⟨f,fd,F,b,kp,a,n⟩:=D.ex
 exact pe_make ⟨mk,a,n,kc⟩ F (hr.mono hjk) hg hm b .nil hx ha.h hdb (bz he) hpl
end
open PySem PySem.Spec PyProof.Rows
section
variable{X:Cx}{CX:CXT}{k:Nat}{f C:Addr}{fd:FuncData}{ps:List Str}{sp:Sp}{E:XK}
theorem qm {pins:List (Addr×Obj)}{σ:St}{H:Hp}{s:Shared}{Q:VK}{us:List Value}{vs:List V} (F:FnOk X.prog X.w X.K X.mg X.base CX k f fd ps sp) (hr:Room k X.A.in1) (hb:Binds X.K fd ps []) (hx:Passes CX X E)
  (I:Inv X pins σ H s) (r:Vals vs us) (h:sp vs H Q E):wpAny (model X.prog X.w) X.A.in1 (call (.ref f) us) (EP X pins σ Q) X.xe s:=by
 have hl:(us++[]).length=ps.length:=by rw[List.append_nil,←r.length];exact F.len _ _ _ _ h
 have hl':us.length=ps.length:=by rw[List.append_nil] at hl;exact hl
 have bb:=hb s us I.kIn hl
 rw[List.append_nil] at bb
 refine wpAny_call (codeAny_mono (F.run X.A.in1 X.stack s H ⟨us,[]⟩ us vs Q E hr ⟨(show X.A.in1.frames=some X.stack from I.ok.frames),I.ok.mod,I.bs,Nat.le_trans I.ok.bsz I.sz,I.stack,I.stkFree,I.hok,I.bare⟩ bb r h) fun r s' hq=>?_)
 cases r with
 |error e=>exact hx pins σ H s e s' I hq
 |ok fl=>
   cases fl with
   |ret u=>exact I.after hq
   |next=>exact False.elim hq
   |brk=>exact False.elim hq
   |cont=>exact False.elim hq
theorem wK{j:Nat}(D:MethC X.prog X.w X.K X.mg X.base j C "__len__" ps sp)(hr:Room (j+1) X.A)(hx:Passes (cM X.prog X.w) X E) :
  CallR X (.builtin "len") (fun vs H Q=>∃x dx fs,vs=[.ref x]∧H x=some (.ins C dx fs)∧sp [.ref x] H (fun v H2=>∃n:Int,v=.int n∧(0≤n∧n<2^63)∧Q (.int n) H2) E):=by
 intro pins s σ H vs us Q I r h
 obtain⟨x,dx,fs,rfl,hx',q⟩:=h
 obtain⟨f,fd,F,b,kp,a,n⟩:=D.ex
 obtain⟨u,rfl,ru⟩:=vals1 r
 cases ru
 obtain⟨mA,O,_⟩:=ins_get I.hok hx'
 obtain⟨od,IA,_⟩:=O.look
 refine Calls.call_function_entry PySem.kind_len PySem.plain_len PySem.entry_len (PySem.args_len1 _) ?_
 unfold Builtin.«len»
 refine wpAny_bind (m:=oneArg "len" _) (wpAny_pure ?_)
 refine wpAny_bind (m:=callSpecial? (.ref x) (Str.ofString "__len__")) (PySem.W.special_fn I.kIn IA a (beq_iff_eq.mp n) (wpAny_mono (qm (vs:=[.ref x]) F hr.in1 b hx I (.cons rfl .nil) q) (fun w' s' hw=>?_) fun _ _ y=>y))
 obtain⟨v,H2,I2,rv,m,rfl,⟨h0,h1⟩,qq⟩:=hw
 obtain⟨t,rfl⟩:=rv
 refine wpAny_bind (wpAny_holding (wpAny_pure ?_))
 refine wpAny_bind (wpAny_letGo ?_)
 show wpAny _ _ (if m<0 then _ else _) _ _ _
 rw[if_neg (by omega)]
 show wpAny _ _ (if m ≥ 2^63 then _ else _) _ _ _
 rw[if_neg (by omega)]
 exact wpAny_bind (wpAny_mkInt (wpAny_pure ⟨_,rfl,.int m,H2,I2.tok _,⟨_,rfl⟩,qq⟩))
end
theorem bZ:∀ (names:List (Str×NameKind)) (n:Nat) (acc:List (Str×Addr)),cellsFrom n names acc=cellsFrom n names []++acc
 |[],_,_=>rfl
 |(name,kind)::r,n,acc=>by
   unfold cellsFrom
   split
   ·rw[bZ r (n+1) ((name,n)::acc),bZ r (n+1) [(name,n)],List.append_assoc];rfl
   ·exact bZ r n acc
theorem qQ{M:Model}{A:Around}{E:Value->Shared->Prop}{s:Shared}{scope:Scope}{globals:Addr}{cl:List (Str×Addr)}{qual:Str}{env:Env}{Q:Env->Shared->Prop}
  (hQ:Q (newEnv scope s.heap.objs.size globals (cellsFrom (s.heap.objs.size+1) scope.names cl) qual none .none (some env) builtinsNs) { s with heap:=pushCells (s.heap.push { cls:=.type "dict",data:=.dict #[] }) scope.names }) :
  wpAny M A (newFunctionEnv scope globals cl [] qual none .none (some env)) Q E s:=by
 simp only[newFunctionEnv,Option.isSome_some,if_true]
 refine wpAny_bind (wpAny_alloc ?_)
 refine wpAny_bind (wpAny_layCells _ (fun name kind cells=>by cases hkc:kind==NameKind.cell<;>simp[hkc]) _ _ _ _ ?_)
 rw[show ({ s with heap:=s.heap.push { cls:=.type "dict",data:=.dict #[] } }:Shared).heap.objs.size=s.heap.objs.size+1 from Heap.size_push ..]
 refine wpAny_bind ?_
 rw[List.forIn_nil]
 exact wpAny_pure (wpAny_pure hQ)
abbrev Cx.bf(X:Cx)(pins:List (Addr×Obj))(scope:Scope)(cs:List (Str×Addr))(Nc:List Str)(fp:List Addr)(C:Addr)(s₂:Shared)(H₂:Hp):Cx where
 prog:=X.prog
 w:=X.w
 K:=X.K
 mg:=X.mg
 base:=X.base
 A:=X.A
 N:=Nc
 s₀:=s₂
 H₀:=H₂
 env:=compEnvC scope cs C X.env
 outer:=X.stack
 stack:=X.stack
 ex:=fp
 fn:=fun y=>scope.names.lookup y==some .cell
 calm:=X.calm
 pn:=X.pn++pins
 xe:=fun _ _=>False
structure CompG(X:Cx)(scope:Scope)(cl:List (Str×Addr))(own:List Str)(js:List Nat)(fr:List Str):Prop where
 kind:scope.kind=.function
 names:∀y∈scope.names,y.2=.local->scope.names.lookup y.1=some .local
 clos:closureFor scope X.env=pure cl
 sub:∀y c,cl.lookup y=some c->X.env.cells.lookup y=some c
 has:∀(m:Nat) y,((relabel scope X.env).names.lookup y=some .cell∨(relabel scope X.env).names.lookup y=some .free)->∃c,(cellsFrom m scope.names cl).lookup y=some c
 nd:(own++fr).Nodup
 len:js.length=fr.length
 newc:∀(m:Nat) y c,(cellsFrom m scope.names []).lookup y=some c->scope.names.lookup y=some .cell
 oldc:∀y c,cl.lookup y=some c->scope.names.lookup y≠some .cell
 fre:∀(k j:Nat) (y:Str),js[k]?=some j->fr[k]?=some y->X.N[j]?=some y∧(X.env.scope.names.lookup y=some .cell∨X.env.scope.names.lookup y=some .free)∧((relabel scope X.env).names.lookup y=some .cell∨(relabel scope X.env).names.lookup y=some .free)∧∃c,cl.lookup y=some c
theorem jL {α:Type}{y:Str}{c:α}:∀ {l m:List (Str×α)},(l++m).lookup y=some c->l.lookup y=some c∨(l.lookup y=none∧m.lookup y=some c)
 |[],_,h=>.inr ⟨rfl,h⟩
 |(k,v)::r,m,h=>by
   rw[List.cons_append,List.lookup_cons] at h
   rw[List.lookup_cons]
   split at h
   ·exact .inl h
   ·exact jL h
theorem iG {α:Type}{y:Str}:∀ {l m:List (Str×α)},l.lookup y=none->(l++m).lookup y=m.lookup y
 |[],_,_=>rfl
 |(k,v)::r,m,h=>by
   rw[List.lookup_cons] at h
   rw[List.cons_append,List.lookup_cons]
   split at h
   ·cases h
   ·exact iG h
section
variable{X:Cx}{pins:List (Addr×Obj)}{σ:St}{H:Hp}{s:Shared}{scope:Scope}{cl:List (Str×Addr)}{own:List Str}{js:List Nat}{fr:List Str}{fp:List Addr}{C m:Addr}
theorem yZ {hh:Heap} (T:CompG X scope cl own js fr) (I:Inv X pins σ H s) (f:∀ b∈fp,FpOk X pins H b) (hlt:∀ b∈fp,b<s.heap.objs.size) (hC:s.heap.objs.size≤C) (hm:m=hh.objs.size) (hms:s.heap.objs.size≤m) :
  (X.bf pins scope (cellsFrom m scope.names cl) (own++fr) fp C s H).Ok:=by
 have ok:CellsOk (pushCells hh scope.names) m (cellsFrom m scope.names []):=by
  have:=cellsFrom_ok scope.names hh m [] ⟨fun _ _ hm=>(nomatch hm),List.Pairwise.nil⟩ (by rw[hm];exact Nat.le_refl _)
  rw[←hm] at this;exact this
 have hold:∀y c,cl.lookup y=some c->c<s.heap.objs.size:=fun y c e=>by
  obtain⟨v,q⟩:=I.cell y c (T.sub _ _ e)
  exact q.lt
 have spl:∀y c,(cellsFrom m scope.names cl).lookup y=some c->(m≤c∧(cellsFrom m scope.names []).lookup y=some c)∨(cl.lookup y=some c∧c<s.heap.objs.size):=fun y c e=>by
  rw[bZ] at e
  rcases jL e with z | ⟨_,z⟩
  ·exact .inl ⟨(ok.empty _ _ (PySem.mem_of_lookup z)).2,z⟩
  ·exact .inr ⟨z,hold _ _ z⟩
 refine⟨I.ok.mod,T.kind,I.ok.glob,I.ok.blt,hC,fun y z c h1 h2=>?_,fun y h=>T.has m y h,fun y c h1 h2=>?_,I.ok.hd,I.ok.frames,.inl rfl,fun b hb=>⟨Nat.ne_of_lt (Nat.lt_of_lt_of_le (hlt b hb) hC),fun y c h=>?_⟩,fun b o e=>I.bs b o e,Nat.le_trans I.ok.bsz I.sz,fun b o e hb=>?_,fun b hb hm'=>?_,I.stack,I.stkFree⟩
 ·rcases spl _ _ h1 with ⟨a1,a2⟩ | ⟨a1,a2⟩
  ·rcases spl _ _ h2 with ⟨b1,b2⟩ | ⟨b1,b2⟩
   ·exact name_of_addr ok.apart (PySem.mem_of_lookup a2) (PySem.mem_of_lookup b2)
   ·exact absurd (Nat.lt_of_lt_of_le b2 hms) (Nat.not_lt.mpr a1)
  ·rcases spl _ _ h2 with ⟨b1,b2⟩ | ⟨b1,b2⟩
   ·exact absurd (Nat.lt_of_lt_of_le a2 hms) (Nat.not_lt.mpr b1)
   ·exact I.ok.inj y z c (T.sub _ _ a1) (T.sub _ _ b1)
 ·rcases spl _ _ h2 with ⟨a1,a2⟩ | ⟨a1,a2⟩
  ·exact Nat.le_trans hms a1
  ·exact absurd (by simpa using h1) (T.oldc _ _ a1)
 ·rcases spl _ _ h with ⟨a1,a2⟩ | ⟨a1,a2⟩
  ·exact fun z=>absurd (Nat.lt_of_lt_of_le (hlt b hb) hms) (Nat.not_lt.mpr (z ▸ a1))
  ·exact (f b hb).2.2.2.2.1 y c (T.sub _ _ a1)
 ·rcases (f b hb).2.2.2.1 with z | z
  ·exact I.ok.noex b o e z
  ·exact absurd (Nat.lt_of_lt_of_le (Heap.lt_size e) I.ok.bsz) (Nat.not_lt.mpr z)
 ·rcases List.mem_cons.mp (I.stkSub b hm') with z | z
  ·exact (f b hb).2.1 z
  ·exact (f b hb).2.2.1 z
theorem qK {hh h':Heap}{t':Nat}{acc:Addr}{mm:Str->Option Value} (T:CompG X scope cl own js fr) (I:Inv X pins σ H s) (f:∀ b∈fp,FpOk X pins H b) (hlt:∀ b∈fp,b<s.heap.objs.size)
  (k:∀b o,s.heap.get? b=some o->h'.get? b=some o) (ha:s.heap.objs.size≤acc) (hC:s.heap.objs.size≤C) (hne:C≠acc) (hm:m=hh.objs.size) (hms:s.heap.objs.size≤m) (hCm:C<m) (ham:acc<m) (hh':h'=pushCells hh scope.names)
  (new:∃n,h'.get? acc=some { cls:=.type "list",data:=.seq #[] n }) (ns:h'.Ns C mm) :
  Inv (X.bf pins scope (cellsFrom m scope.names cl) (own++fr) fp C s H) [] (List.replicate own.length none++pick js σ) (upd H acc (.lst [])) { s with heap:=h',toks:=t' }:=by
 have ok:CellsOk (pushCells hh scope.names) m (cellsFrom m scope.names []):=by
  have:=cellsFrom_ok scope.names hh m [] ⟨fun _ _ hm=>(nomatch hm),List.Pairwise.nil⟩ (by rw[hm];exact Nat.le_refl _)
  rw[←hm] at this;exact this
 have hold:∀y c,cl.lookup y=some c->c<s.heap.objs.size:=fun y c e=>by
  obtain⟨v,q⟩:=I.cell y c (T.sub _ _ e)
  exact q.lt
 have spl:∀y c,(cellsFrom m scope.names cl).lookup y=some c->(m≤c∧h'.IsCell c none)∨(cl.lookup y=some c∧c<s.heap.objs.size):=fun y c e=>by
  rw[bZ] at e
  rcases jL e with z | ⟨_,z⟩
  ·have:=ok.empty _ _ (PySem.mem_of_lookup z)
   exact .inl ⟨this.2,by rw[hh'];exact this.1⟩
  ·exact .inr ⟨z,hold _ _ z⟩
 have hn:H acc=none:=I.hok.fresh ha
 have fC:H C=none:=I.hok.fresh hC
 have ob:ObjOk X.prog X.w (upd H acc (.lst [])) h' acc (.lst []):=by
  obtain⟨n,e⟩:=new
  exact⟨Nat.zero_le _,[],n,.nil,e⟩
 refine⟨yZ T I f hlt hC hm hms,rfl,I.bare,Un.laid k ha hn,⟨mm,ns,fun i y v h1 h2 h3=>?_⟩,fun y c e=>?_,by show upd H acc _ C=none;rw[upd_ne hne];exact fC,fun y c e=>?_,fun p hp=>?_,I.hok.laid k ha ob,?_⟩
 ·have h1:(own++fr)[i]?=some y:=h1
  by_cases hi:i<own.length
  ·rw[List.getElem?_append_left (by rw[List.length_replicate];exact hi),List.getElem?_replicate] at h2
   split at h2<;>cases h2
  ·rw [List.getElem?_append_right (by omega)] at h1
   rw[List.getElem?_append_right (by rw[List.length_replicate];omega),List.length_replicate] at h2
   unfold pick at h2
   rw[List.getElem?_map] at h2
   cases hj:js[i-own.length]? with
   |none=>rw[hj] at h2;cases h2
   | some j=>
     rw[hj] at h2
     have h2s:(σ[j]?).getD none=some v:=Option.some.inj h2
     have h2'':σ[j]?=some (some v):=by
      cases z:σ[j]? with
      |none=>rw[z] at h2s;cases h2s
      |some w=>rw[z] at h2s;exact congrArg some h2s
     obtain⟨g1,g2,g3,c,gc⟩:=T.fre _ j y hj h1
     obtain⟨mX,_,hl⟩:=I.loc
     have vis:Vis X.env.scope y:=g2.elim (fun z=>.inr (.inl z)) fun z=>.inr (.inr z)
     obtain⟨u,r,q⟩:=hl j y v g1 h2'' vis
     refine⟨u,r,.inr ⟨g3,c,?_,?_⟩⟩
     ·show (cellsFrom m scope.names cl).lookup y=some c
      rw[bZ]
      cases z:(cellsFrom m scope.names []).lookup y with
      |none=>rw[iG z];exact gc
      |some c'=>exact absurd (T.newc m y c' z) (T.oldc y c gc)
     ·have hc':=T.sub _ _ gc
      rcases q with ⟨q,_⟩ | ⟨_,c2,e2,z⟩
      ·have q:X.env.scope.names.lookup y=some .local:=q
       rcases g2 with g2 | g2<;>(rw[g2] at q;cases q)
      ·rw[hc'] at e2;cases e2
       exact z.keeps k
 ·rcases spl y c e with ⟨_,z⟩ | ⟨z,_⟩
  ·exact⟨_,z⟩
  ·obtain⟨v,q⟩:=I.cell y c (T.sub _ _ z)
   exact⟨v,q.keeps k⟩
 ·rcases spl y c e with ⟨z,_⟩ | ⟨z,lt⟩
  ·show upd H acc _ c=none
   rw[upd_ne (fun (q:c=acc)=>absurd ham (Nat.not_lt.mpr (q ▸ z)))]
   exact I.hok.fresh (Nat.le_trans hms z)
  ·show upd H acc _ c=none
   rw[upd_ne (fun (q:c=acc)=>absurd lt (Nat.not_lt.mpr (q ▸ ha)))]
   exact I.freeC y c (T.sub _ _ z)
 ·have hp':p∈X.pn++pins:=by simpa using hp
  obtain⟨e,n,ne,nf,d⟩:=I.pin p hp'
  refine⟨k _ _ e,?_,Nat.ne_of_lt (Nat.lt_of_lt_of_le (Heap.lt_size e) hC),fun hm=>?_,d⟩
  ·show upd H acc _ p.1=none
   rw[upd_ne (fun z=>absurd (Heap.lt_size e) (by rw[z];exact Nat.not_lt.mpr ha))]
   exact n
  ·rcases List.mem_cons.mp (I.stkSub _ hm) with z | z
   ·exact ne z
   ·exact nf z
 ·show (List.replicate own.length none++pick js σ).length=(own++fr).length
  unfold pick
  rw[List.length_append,List.length_replicate,List.length_map,List.length_append,T.len]
end
section
variable{prog:Program}{w:World}{A:Around}{R:Result->Shared->Prop}{s:Shared}
def qx(ifs:List Expr)(env:Env):Sem Bool:=forIn ifs true fun c r=>if r=true then do let ok ←isTrue c env (eval c env);pure (ForInStep.yield ok) else pure (ForInStep.yield r)
def turnOf (g:Comprehension) (bodyK:Sem Fin->Sem Fin) (c:Code) (it:Value) (env:Env):Sem Fin:=do
 standAt g.iter.pos
 match ←pyNext it with
 |none=>pure (.done .next)
 |some v=>
   letOwnedTupleGo g.target it v
   assign g.target env v
   let ok ←qx g.ifs env
   if ok then bodyK (again c) else again c
def o4(elt:Expr)(acc:Value)(env:Env)(k:Sem Fin):Sem Fin:=do
 (do let _ ←call (.builtin "list.append") [acc,←eval elt env])
 k
theorem Aq(elt target iter:Expr)(ifs:List Expr)(scope:Scope)(pos:Pos)(it acc:Value)(env:Env) :
  compTurn (.ListComp elt [⟨target,iter,ifs,0⟩] scope pos) 0 it acc env=turnOf ⟨target,iter,ifs,0⟩ (o4 elt acc env) (.compLoop (.ListComp elt [⟨target,iter,ifs,0⟩] scope pos) 0 it acc env) it env:=rfl
def oH(prog:Program)(w:World)(A:Around)(bodyK:Sem Fin->Sem Fin)(W:(Shared->Prop)->Shared->Prop):Prop:=
 ∀(k:Sem Fin) (Q:Fin->Shared->Prop) (E:Value->Shared->Prop) (s:Shared),W (fun s'=>wpAny (model prog w) A k Q E s') s->wpAny (model prog w) A (bodyK k) Q E s
theorem wY{elt:Expr}{acc:Value}{env:Env}:oH prog w A (o4 elt acc env) (fun P s=>wpAny (model prog w) A (eval elt env) (fun x s1=>wpAny (model prog w) A (call (.builtin "list.append") [acc,x]) (fun _ s2=>P s2) (fun _ _=>False) s1) (fun _ _=>False) s):=by
 intro k Q E s h
 unfold o4
 exact wpAny_bind (wpAny_bind (wpAny_mono h (fun x s1 h1=>wpAny_bind (wpAny_mono h1 (fun _ s2 h2=>wpAny_pure h2) fun _ _ z=>z.elim)) fun _ _ z=>z.elim))
theorem zA {elt:Expr}{gens:List Comprehension}{scope:Scope}{pos:Pos}{depth:Nat}{g:Comprehension}{bodyK:Sem Fin->Sem Fin}{W:(Shared->Prop)->Shared->Prop}{it acc:Value}{env:Env} (I:Nat->Shared->Prop)
  (hturn:compTurn (.ListComp elt gens scope pos) depth it acc env=turnOf g bodyK (.compLoop (.ListComp elt gens scope pos) depth it acc env) it env) (hW:oH prog w A bodyK W)
  (turn:∀ n s,I n s->wpAny (model prog w) A (pyNext it) (fun r s₁=>match r with
    |none=>R (.ok .next) s₁
    |some v=>wpAny (model prog w) A (letOwnedTupleGo g.target it v) (fun _ s₂=>wpAny (model prog w) A (assign g.target env v) (fun _ s₃=>
      wpAny (model prog w) A (qx g.ifs env) (fun ok s₄=>if ok=true then W (fun s₅=>∃m,m<n∧I m s₅) s₄ else ∃m,m<n∧I m s₄) (fun _ _=>False) s₃) (fun _ _=>False) s₂) (fun _ _=>False) s₁) (fun _ _=>False) s)
  (hmono:∀P P' s,(∀s,P s->P' s)->W P s->W P' s)
  (n:Nat) (h:I n s):codeAny (model prog w) A (.compLoop (.ListComp elt gens scope pos) depth it acc env) R s:=by
 refine codeAny_loop rfl I (fun n s hI=>?_) n h
 show wpAny _ A ((compTurn (.ListComp elt gens scope pos) depth it acc env).onRaise (fun x=>do noteFrame x env;theTreesLotGoes x)) _ _ s
 refine wpAny_noted ?_
 rw[hturn]
 unfold turnOf
 refine wpAny_bind (wpAny_standAt (wpAny_bind (wpAny_mono (turn n s hI) (fun r s₁ h₁=>?_) fun _ _ h'=>h'.elim)))
 cases r with
 |none=>exact wpAny_pure h₁
 | some v=>
   refine wpAny_bind (wpAny_mono h₁ (fun _ s₂ h₂=>wpAny_bind (wpAny_mono h₂ (fun _ s₃ h₃=>wpAny_bind (wpAny_mono h₃ (fun ok s₄ h₄=>?_) fun _ _ h'=>h'.elim)) fun _ _ h'=>h'.elim)) fun _ _ h'=>h'.elim)
   cases ok with
   |false=>
     have h₄:∃m,m<n∧I m s₄:=h₄
     exact wpAny_pure ⟨rfl,h₄⟩
   |true=>
     have h₄:W (fun s₅=>∃m,m<n∧I m s₅) s₄:=h₄
     exact hW _ _ _ _ (hmono _ _ _ (fun s₅ h₅=>wpAny_pure ⟨rfl,h₅⟩) h₄)
theorem qR {elt:Expr}{gens:List Comprehension}{scope:Scope}{pos:Pos}{depth:Nat}{g:Comprehension}{it acc:Value}{env:Env} (hg:gens[depth]?=some g) (ha:g.is_async=0)
  (h0:codeAny (model prog w) A (.compLoop (.ListComp elt gens scope pos) depth it acc env) R s)
  (h:wpAny (model prog w) A (pyIter it) (fun it' s'=>codeAny (model prog w) A (.compLoop (.ListComp elt gens scope pos) depth it' acc env) R s') (fun _ _=>False) s) :
  codeAny (model prog w) A (.compStart (.ListComp elt gens scope pos) depth it acc env) R s:=by
 refine codeAny_of_tree ?_
 show wpAny _ _ ((compStart (.ListComp elt gens scope pos) depth it acc env).onRaise (fun x=>do noteFrame x env;standAt theWindowsPlace)) _ _ s
 refine wpAny_notedAt ?_
 unfold compStart
 have e1:(((clausesOf (.ListComp elt gens scope pos))[depth]?).elim false (·.is_async != 0))=false:=by
  show ((gens[depth]?).elim false (·.is_async != 0))=false
  rw[hg]
  show (g.is_async != 0)=false
  rw[ha];rfl
 rw[e1]
 simp only[Bool.false_eq_true,if_false,pure_bind]
 refine wpAny_bind (wpAny_askSetting (wpAny_ite ?_))
 split
 ·first
   |exact wpAny_bind (wpAny_pure (wpAny_pure (And.intro rfl h0)))
   |exact wpAny_pure (And.intro rfl h0)
 ·refine wpAny_bind (wpAny_rule ?_)
  have e2:(clausesOf (.ListComp elt gens scope pos))[depth]?=some g:=hg
  rw[e2]
  exact wpAny_bind (wpAny_standAt (wpAny_bind (wpAny_mono h (fun it' s' h'=>wpAny_pure (And.intro rfl h')) fun _ _ x=>x.elim)))
end
section
variable{X:Cx}{pins:List (Addr×Obj)}{σ:St}{H:Hp}{s:Shared}{h':Heap}
theorem Inv.turnedLay {t':Nat}{ch:List Addr}{p:Addr}{o:HO} (I:Inv X pins σ H s) (k:∀ b o,b∉ch->s.heap.get? b=some o->h'.get? b=some o) (hf:∀ b∈ch,FpOk X pins H b) (hp:s.heap.objs.size≤p) (new:ObjOk X.prog X.w (upd H p o) h' p o):Inv X pins σ (upd H p o) { s with heap:=h',toks:=t' }:=by
 have nit:∀b u,H b=some u->b∉ch:=fun b u e z=>by have:=(hf b z).1;rw[e] at this;cases this
 have hn:H p=none:=I.hok.fresh hp
 have tr:∀b u,H b=some u->upd H p o b=some u:=fun b u e=>by rw[upd_ne (ne_of_none e hn)];exact e
 refine I.step (g':=s.gens) (d':=s.drawn) (ch:=ch) (fun b hb=>?_) (fun b o _ _ hc e _=>k b o hc e) (fun b o _ _ hc e _=>⟨o.slots,k b o hc e⟩) (fun b u _ e n=>by rw[upd_ne (Nat.ne_of_lt (Nat.lt_of_lt_of_le (Heap.lt_size e) hp))];exact n)
  (fun b o hc e=>⟨o,k b o hc e⟩) (fun b xs e=>tr b _ e) (fun b _ _ e=>tr b _ e) (fun b ps e=>⟨#[],by rw[tr b _ e];simp⟩) (fun m hm=>?_) (fun b u e=>?_) I.bare
 ·obtain⟨_,f1,_,f3,f4,f5⟩:=hf b hb
  exact⟨f3,f1,f4,f5⟩
 ·obtain⟨o,es,ep,ho,r⟩:=hm
  exact⟨o,es,ep,k _ o (fun z=>(hf _ z).2.1 rfl) ho,r⟩
 ·by_cases z:b=p
  ·subst z
   rw[upd_same] at e;cases e
   exact new
  ·rw[upd_ne z] at e
   refine (I.hok b u e).stay (fun c v hc q=>k c v ?_ q) (fun c q=>tr c _ q) fun c xs q=>tr c _ q
   rcases hc with y | y
   ·rw[y];exact nit b u e
   ·exact nit c _ y
end
theorem vd:bootBuiltins "list"=some (.type "list"):=by decide +kernel
theorem qT:∀ (vs:List Value) (k:Nat),(∀ (j:Nat) v,vs[j]?=some v->∃ t,v=.int ((k + j:Nat):Int) t)->Vals ((List.range' k vs.length).map fun i:Nat=>V.int (i:Int)) vs
 |[],k,_=>.nil
 | v::vs,k,h=>by
   have h0:=h 0 v rfl
   have ih:=qT vs (k+1) fun j u e=>by
    have:=h (j+1) u (by simpa using e)
    rw[show k+1+j=k+(j+1) by omega];exact this
   rw[List.length_cons,List.range'_succ,List.map_cons]
   exact .cons h0 ih
section
variable{X:Cx}
def GD(ta:TA):TE:=fun σ H Q=>ta σ H fun vs H1=>∃j:Int,vs=[.int j]∧j≤2^20∧-(2^62)≤j∧∀l,H1 l=none->Q (.ref l) (upd H1 l (.lst ((List.range j.toNat).map fun i:Nat=>V.int (i:Int))))
theorem xU {a:Expr}{ta:TA}{p1 p2 pos1 pos2:Pos} (hc:X.calm=true) (hgL:Gl X "list") (hmL:X.mg "list"=none) (hg:Gl X "range") (hm:X.mg "range"=none) (ha:PA X [a] ta) (hs:notStar a=true:=by rfl) :
  PE X (.Call (.Name "list" p1) [.Call (.Name "range" p2) [a] [] pos2] [] pos1) (GD ta):=by
 intro pins s σ H Q I h
 have hst:starEach [Expr.Call (.Name "range" p2) [a] [] pos2] X.env=(false,eval (.Call (.Name "range" p2) [a] [] pos2) X.env)::starEach [] X.env:=bz rfl
 refine Call_ (ld_blt I hgL hmL vd (PyProof.Rows.callWith_type1 ?_ hst rfl))
 rw[hst]
 show wpAny _ _ (spliced ((false,eval (.Call (.Name "range" p2) [a] [] pos2) X.env)::[])) _ _ s
 refine Calls.spliced_cons ?_
 refine Call_ (ld_blt I hg hm boot_range (PyProof.Rows.callWith_type1 (thn (ha pos2 pins s σ H _ I h) fun us s1 ⟨vs,H1,I1,r1,q1⟩=>?_) (bz hs) rfl))
 obtain⟨j,e,q1,q2,q⟩:=q1
 subst e
 cases r1 with
 | cons r rr=>
   cases rr
   obtain⟨t,rfl⟩:=r
   refine call_range_1 ?_
   refine Calls.spliced_nil ?_
   have rs:Builtin.Range.rangeSize 0 j 1=((j.toNat:Nat):Int):=by rw[rangeSize_one];split<;>omega
   refine call_list_range (n:=j.toNat) (I1.ok.hd hc) (IsRange.new ..) (small_one (by omega) (by omega) q2 (by omega)) rs (by omega) fun h' tk acc c k1 k2 k3=>?_
   have vl:Vals ((List.range j.toNat).map fun i:Nat=>V.int (i:Int)) acc.toList:=by
    have:=qT acc.toList 0 fun i v e=>by
     obtain⟨t,rfl⟩:=k3.2 i v (by simpa using e)
     exact⟨t,by congr 1;omega⟩
    rw[List.range_eq_range']
    rw[show acc.toList.length=j.toNat by simpa using k3.1] at this
    exact this
   refine⟨.ref _,upd H1 _ (.lst ((List.range j.toNat).map fun i:Nat=>V.int (i:Int))),?_,rfl,q _ (I1.hok.fresh ?_)⟩
   ·refine I1.turnedLay (ch:=[]) (t':=tk) (fun b o _ e=>k1 b o (Heap.get?_push_of_some _ e)) (fun b hb=>nomatch hb) ?_ ⟨?_,acc.toList,c,vl,k2⟩
    ·rw[Heap.size_push];omega
    ·rw[List.length_map,List.length_range];show _≤2^24;omega
   ·rw[Heap.size_push];omega
end
end L2
namespace L2
open PySem PySem.Spec PyProof.Rows
open PySem.AutoSeq1 (wpAny_loadPart')
open PySem PySem.Spec PyProof.Rows
end L2
namespace LS
open PySem
def iY(xs:Array Nat):Prop:=xs.toList.Pairwise (·< ·)
theorem iY.lt{xs:Array Nat}(h:iY xs){a b:Nat}(hab:a<b)(hb:b<xs.size):xs[a]<xs[b]:=by
 have:=List.pairwise_iff_getElem.mp h a b (by simpa using Nat.lt_trans hab hb) (by simpa using hb) hab
 simpa using this
structure Bel(xs:Array Nat)(j r:Nat):Prop where
 le:r≤xs.size
 lo:∀k (hk:k<xs.size),k<r->xs[k]<j
 hi:∀k (hk:k<xs.size),r≤k->j≤xs[k]
theorem nu {xs:Array Nat}{j:Nat} (h:iY xs):∀ (fuel lo hi:Nat),hi - lo≤fuel->lo≤hi->hi≤xs.size->(∀ k (hk:k<xs.size),k<lo->xs[k]<j)->(∀ k (hk:k<xs.size),hi≤k->j≤xs[k])->Bel xs j (SetTable.below.go xs j fuel lo hi)
 |0,lo,hi,hf,hl,hs,h1,h2=>by
   unfold SetTable.below.go
   have:lo=hi:=by omega
   subst this
   exact⟨hs,h1,h2⟩
 | fuel + 1,lo,hi,hf,hl,hs,h1,h2=>by
   unfold SetTable.below.go
   by_cases c:lo<hi
   ·rw[if_pos c]
    dsimp only
    have hm:(lo+hi) / 2<hi:=by omega
    have hm':lo≤(lo+hi) / 2:=by omega
    generalize (lo+hi) / 2=mid at hm hm'
    have hms:mid<xs.size:=by omega
    have e:xs.getD mid j=xs[mid]:=by rw[Array.getD_eq_getD_getElem?,Array.getElem?_eq_getElem hms];rfl
    rw[e]
    by_cases c2:xs[mid]<j
    ·rw[if_pos c2]
     refine nu h fuel (mid+1) hi (by omega) (by omega) hs (fun k hk hkm=>?_) h2
     by_cases q:k=mid
     ·subst q;exact c2
     ·have:=h.lt (show k<mid by omega) hms;omega
    ·rw[if_neg c2]
     refine nu h fuel lo mid (by omega) hm' (by omega) h1 (fun k hk hkm=>?_)
     by_cases q:k=mid
     ·subst q;omega
     ·have:=h.lt (show mid<k by omega) hk;omega
   ·rw[if_neg c]
    have:lo=hi:=by omega
    subst this
    exact⟨hs,h1,h2⟩
theorem iz{xs:Array Nat}(h:iY xs)(j:Nat):Bel xs j (SetTable.below xs j):=by
 unfold SetTable.below
 exact nu h xs.size 0 xs.size (by omega) (by omega) (Nat.le_refl _) (fun k hk z=>by omega) (fun k hk z=>by omega)
theorem below_at{xs:Array Nat}(h:iY xs){i:Nat}(hi:i<xs.size):SetTable.below xs xs[i]=i:=by
 have b:=iz h xs[i]
 generalize SetTable.below xs xs[i]=r at b
 rcases Nat.lt_trichotomy r i with c | c | c
 ·have:=b.hi r (by omega) (Nat.le_refl _)
  have:=h.lt c hi
  omega
 ·exact c
 ·have:=b.lo i hi c
  omega
theorem u9{xs:Array Nat}(h:iY xs):SetTable.below xs 0=0:=by
 have b:=iz h 0
 generalize SetTable.below xs 0=r at b
 rcases Nat.eq_zero_or_pos r with c | c
 ·exact c
 ·have:=b.le
  have:=b.lo 0 (by omega) c
  omega
theorem uZ{xs:Array Nat}(h:iY xs){i:Nat}(hi:i<xs.size):SetTable.below xs (xs[i]+1)=i+1:=by
 have b:=iz h (xs[i]+1)
 generalize SetTable.below xs (xs[i]+1)=r at b
 have ble:=b.le
 rcases Nat.lt_trichotomy r (i+1) with c | c | c
 ·have:=b.hi i hi (by omega)
  omega
 ·exact c
 ·have l:=b.lo (i+1) (by omega) c
  have:=h.lt (show i<i+1 by omega) (show i+1<xs.size by omega)
  omega
theorem vC {xs:Array Nat} (h:iY xs) {j:Nat} (hj:j∉xs.toList):iY (SetTable.insertAt xs (SetTable.below xs j) j):=by
 have b:=iz h j
 unfold iY
 rw[SetTable.toList_insertAt]
 generalize SetTable.below xs j=r at b
 have h':(xs.toList.take r++xs.toList.drop r).Pairwise (·< ·):=by rw[List.take_append_drop];exact h
 rw[List.pairwise_append] at h' ⊢
 refine⟨h'.1,List.pairwise_cons.mpr ⟨fun x hx=>?_,h'.2.1⟩,fun x hx y hy=>?_⟩
 ·obtain⟨k,hk,rfl⟩:=List.mem_iff_getElem.mp hx
  rw[List.length_drop,Array.length_toList] at hk
  rw[List.getElem_drop]
  have:=b.hi (r+k) (by omega) (by omega)
  have ne:xs.toList[r+k]'(by simp;omega)≠j:=fun z=>hj (z ▸ List.getElem_mem _)
  simp at this ne ⊢
  omega
 ·have lt:x<j:=by
   obtain⟨k,hk,rfl⟩:=List.mem_iff_getElem.mp hx
   rw[List.length_take,Array.length_toList] at hk
   rw[List.getElem_take]
   have:=b.lo k (by omega) (by omega)
   simpa using this
  rcases List.mem_cons.mp hy with rfl | hy
  ·exact lt
  ·exact h'.2.2 x hx y hy
structure TI(L:Bool)(t:SetTable):Prop where
 ris:iY t.place
 dum:t.dummies=#[]
 led:t.led=L
theorem TI.fresh{L:Bool}(f m:Nat):TI L (.fresh f m L):=⟨List.Pairwise.nil,rfl,rfl⟩
theorem TI.standIn{L:Bool}{t:SetTable}(h:TI L t)(n:Nat):TI L (t.standIn n):=⟨by
 unfold iY SetTable.standIn
 rw[show (Array.range n).toList=List.range n by simp]
 exact List.pairwise_lt_range,rfl,h.led⟩
theorem TI.orStandIn{L:Bool}{t:SetTable}(h:TI L t)(n:Nat):TI L (t.orStandIn n):=by
 unfold SetTable.orStandIn
 split
 ·exact h
 ·exact h.standIn n
theorem vZ{L:Bool}{t:SetTable}(h:TI L t){j:Nat}(e:t.slot j=.empty):j∉t.place.toList:=fun hj=>by
 obtain⟨k,hk,rfl⟩:=List.mem_iff_getElem.mp hj
 have hk':k<t.place.size:=by simpa using hk
 have b:=below_at h.ris hk'
 unfold SetTable.slot at e
 simp only[Array.getElem_toList] at e
 rw[b] at e
 simp[Array.getElem?_eq_getElem hk'] at e
theorem vY{L:Bool}{t:SetTable}(h:TI L t)(j:Nat):t.slot j≠.dummy:=fun e=>by
 unfold SetTable.slot SetTable.has at e
 rw[h.dum] at e
 dsimp only at e
 split at e
 ·cases e
 ·simp at e
theorem mY {L:Bool}{t:SetTable} (ti:TI L t) {ha:Nat->Int}{h:Int}{j:Nat}{d:Option Nat}:∀ (fuel:Nat) (p:SetTable.Probe),p.dummy=none->SetTable.probe.go t ha h fuel p=some (.empty j d)->t.slot j=.empty∧d=none
 |0,p,_,e=>by unfold SetTable.probe.go at e;cases e
 | fuel + 1,p,hp,e=>by
   unfold SetTable.probe.go at e
   split at e
   ·rename_i hs
    cases e
    exact⟨hs,hp⟩
   ·rename_i hs
    exact absurd hs (vY ti _)
   ·split at e
    ·cases e
    ·refine mY ti fuel _ ?_ e
     unfold SetTable.advance
     split<;>exact hp
theorem xF {L:Bool}{t:SetTable} (h:TI L t) (es:Array (Int×Value)) (hs:Int) (x:Value):TI L (layNew t es hs x).2.1:=by
 unfold layNew
 split
 ·rename_i slot wd e
  unfold SetTable.freeSlot SetTable.probe at e
  split at e
  ·rename_i j d em
   obtain⟨h1,h2⟩:=mY h _ _ rfl em
   subst h2
   cases e
   dsimp only
   refine TI.orStandIn (t:=(t.put (none.getD j)).1) (TI.mk ?_ ?_ h.led) _
   ·exact vC h.ris (vZ h h1)
   ·show (if SetTable.has t.dummies _ then _ else _)=_
    rw[h.dum]
    split
    ·rename_i c
     unfold SetTable.has at c
     simp at c
    ·rfl
  ·cases e
 ·exact h.standIn _
theorem Bf{L:Bool}{mask finger moves:Nat}{plain:Bool}{hs:Array Int}{r:SetTable×Array Nat}(e:SetTable.laid mask finger moves L plain hs=some r):TI L r.1:=by
 unfold SetTable.laid at e
 obtain⟨owner,_,e2⟩:=Option.bind_eq_some_iff.mp e
 cases e2
 refine⟨?_,rfl,rfl⟩
 unfold iY
 dsimp only
 rw[List.pairwise_map]
 refine List.Pairwise.filterMap (R:=fun (a b:Nat)=>a<b) _ (fun a b hab x hx y hy=>?_) List.pairwise_lt_range
 obtain⟨_,_,rfl⟩:=Option.map_eq_some_iff.mp hx
 obtain⟨_,_,rfl⟩:=Option.map_eq_some_iff.mp hy
 exact hab
theorem zU {L:Bool}{t:SetTable} (h:TI L t) (es:Array (Int×Value)) (n:Nat):TI L (relayAll t es n).2.1:=by
 unfold relayAll
 split
 ·rename_i t' order e
  dsimp only
  split
  ·unfold SetTable.relaid at e
   rw[h.led] at e
   exact Bf e
  ·exact h.standIn _
 ·exact h.standIn _
end LS
namespace LS
open PySem PySem.Spec PyProof.Rows
def vInt:Value->Int
 |.int i _=>i
 |_=>0
def fG(l:List (Int×Value)):List Int:=l.map fun e=>vInt e.2
abbrev bc(es:Array (Int×Value))(ep:Nat)(t:SetTable):Obj:={ cls:=.type "set",dict:=none,data:=.set es ep t }
structure SetG(prog:Program)(w:World)(L:Bool)(h:Heap)(a:Addr)(ks:List Int):Prop where
 ex:∃es ep t,h.get? a=some (bc es ep t)∧ElemsOf (intKind prog w) es.toList∧(fG es.toList).Perm ks∧t.fits es.size=true∧TI L t∧es.size<scanBound
theorem xr{prog:Program}{w:World}{k:Int}{v:Value}(h:(intKind prog w).is k v=true):∃t,v=.int k t:=by
 have h':Value.isInt k v=true:=h
 cases v<;>simp[Value.isInt] at h'
 subst h'
 exact⟨_,rfl⟩
theorem su{prog:Program}{w:World}{l:List (Int×Value)}(h:ElemsOf (intKind prog w) l){e:Int×Value}(he:e∈l):∃t,e.2=.int (vInt e.2) t:=by
 obtain⟨⟨k,hk,_⟩,_⟩:=h e he
 obtain⟨t,q⟩:=xr hk
 rw[q]
 exact⟨t,rfl⟩
theorem find_key{prog:Program}{w:World}{l:List (Int×Value)}(h:ElemsOf (intKind prog w) l)(k:Int):(l.findIdx? fun e=>(intKind prog w).is k e.2).isSome=decide (k∈fG l):=by
 rw[Bool.eq_iff_iff,decide_eq_true_eq,List.findIdx?_isSome,List.any_eq_true]
 unfold fG
 rw[List.mem_map]
 constructor
 ·rintro⟨e,he,q⟩
  obtain⟨t,e2⟩:=xr q
  exact⟨e,he,by rw[e2];rfl⟩
 ·rintro⟨e,he,rfl⟩
  obtain⟨t,q⟩:=su h he
  refine⟨e,he,?_⟩
  rw[q]
  exact intKind_is _ _ _ _
section
variable{prog:Program}{w:World}{A:Around}{E:Value->Shared->Prop}{s:Shared}{L:Bool}
theorem uT{h:Heap}{a:Addr}{es es1:Array (Int×Value)}{ep:Nat}{t t1:SetTable}(ho:h.get? a=some (bc es ep t)):(h.update a (Obj.putSet es1 t1)).get? a=some (bc es1 (ep+1) t1):=by
 have q:=Heap.get?_update_self (Obj.putSet es1 t1) ho (by rw[putSet_of es1 t1 rfl];rfl)
 rw[putSet_of es1 t1 rfl] at q
 exact q
theorem yI {g:Bool->Sem Unit} (hg:∀ (b:Bool) (s1:Shared) (R:Unit->Shared->Prop),R () s1->wpAny (model prog w) A (g b) R E s1) {a:Addr}{es es1:Array (Int×Value)}{ep:Nat}{t t2:SetTable}{ks:List Int}{wd:Bool}
  (ho:s.heap.get? a=some (bc es ep t)) (hel:ElemsOf (intKind prog w) es1.toList) (hp:(fG es1.toList).Perm ks) (hb:es1.size<scanBound) (hf:t2.fits es1.size=true) (ti:TI L t2) {R:Option Bool->Shared->Prop}
  (h:∀h',Heap.SameBut a s.heap h'->SetG prog w L h' a ks->R (some true) { s with heap:=h' }) :
  wpAny (model prog w) A (do
    storeSet a es1 t2
    if (!wd && t2.tooFull)=true then do
        g (relayAll t2 es1 (SetTable.grown es1.size)).2.2
        storeSet a (relayAll t2 es1 (SetTable.grown es1.size)).1 (relayAll t2 es1 (SetTable.grown es1.size)).2.1
        pure (some true)
     else pure (some true)) R E s:=by
 refine wpAny_bind (wpAny_storeSet_of ho rfl ?_ (fits_of_scanBound hb))
 have o1:=uT (es1:=es1) (t1:=t2) ho
 have b1:=Heap.SameBut.update s.heap a (Obj.putSet es1 t2)
 split
 ·have p2:=relayAll_perm t2 es1 (SetTable.grown es1.size)
  have f2:=relayAll_fits t2 es1 (SetTable.grown es1.size)
  have ti2:=zU ti es1 (SetTable.grown es1.size)
  revert p2 f2 ti2
  generalize relayAll t2 es1 (SetTable.grown es1.size)=Z
  obtain⟨es2,t3,gv⟩:=Z
  dsimp only
  intro p2 f2 ti2
  have sz:es2.size=es1.size:=by rw[←Array.length_toList,p2.length_eq,Array.length_toList]
  refine wpAny_bind (hg _ _ _ (wpAny_bind (wpAny_storeSet_of o1 rfl ?_ (fits_of_scanBound (by rw[sz];exact hb)))))
  refine wpAny_pure (h _ (b1.trans (Heap.SameBut.update _ a _)) ⟨es2,_,t3,uT o1,hel.perm p2,(p2.map _).trans hp,f2,ti2,by rw[sz];exact hb⟩)
 ·exact wpAny_pure (h _ b1 ⟨es1,_,t2,o1,hel,hp,hf,ti,hb⟩)
theorem add_int {a:Addr}{k:Int}{tk:Tok}{ks:List Int}{Q:Bool->Shared->Prop} (hS:SetG prog w L s.heap a ks) (room:ks.length + 1<scanBound)
  (h:∀h' b,Heap.SameBut a s.heap h'->SetG prog w L h' a (if k∈ks then ks else ks++[k])->Q b { s with heap:=h' }):wpAny (model prog w) A (setAddHashed a (.int k tk) ((intKind prog w).hash k)) Q E s:=by
 obtain⟨es,ep,t,ho,hel,hp,hf,ti,hb⟩:=hS.ex
 have kk:(intKind prog w).is k (.int k tk)=true:=intKind_is _ _ _ _
 have len:es.size=ks.length:=by
  have:=hp.length_eq
  unfold fG at this
  rw[List.length_map,Array.length_toList] at this
  exact this
 unfold setAddHashed setAddHashedIn
 refine wpAny_holding (wpAny_bind (wpAny_setState_of ho rfl hf ?_))
 dsimp only
 rw[byScan_of (knd:=intKind prog w) (x:=.int k tk) rfl hb hel,if_pos rfl]
 unfold setAddByScan
 refine wpAny_bind (wpAny_bind (wpAny_rule (wpAny_bind (wpAny_setScan_of kk ho rfl hf hel ?_))))
 have fk:=find_key hel k
 have mk:k∈fG es.toList ↔ k∈ks:=hp.mem_iff
 cases hr:List.findIdx? (fun e=>(intKind prog w).is k e.2) es.toList with
 |some j=>
   rw[hr] at fk
   have hk:k∈ks:=mk.mp (of_decide_eq_true fk.symm)
   have q:=h s.heap false (Heap.SameBut.refl a s.heap) (by rw[if_pos hk];exact hS)
   have e:s={ s with heap:=s.heap }:=by cases s;rfl
   rw[e]
   exact wpAny_pure (wpAny_pure q)
 | none=>
   rw[hr] at fk
   have hk:k∉ks:=fun z=>by
    have:=of_decide_eq_false fk.symm
    exact this (mk.mpr z)
   rw[if_neg hk] at h
   dsimp only
   have p1:=layNew_perm t es ((intKind prog w).hash k) (.int k tk)
   have f1:=layNew_fits t es ((intKind prog w).hash k) (.int k tk)
   have ti1:=xF ti es ((intKind prog w).hash k) (.int k tk)
   revert p1 f1 ti1
   generalize layNew t es ((intKind prog w).hash k) (.int k tk)=Z
   obtain⟨es1,t1,wd,gv⟩:=Z
   dsimp only
   intro p1 f1 ti1
   rw[Array.toList_push] at p1
   have el1:ElemsOf (intKind prog w) es1.toList:=(hel.push kk rfl).perm p1
   have pk:(fG es1.toList).Perm (ks++[k]):=by
    refine (p1.map _).trans ?_
    rw[List.map_append]
    exact hp.append_right _
   have b1:es1.size<scanBound:=by rw[←Array.length_toList,p1.length_eq,List.length_append,Array.length_toList,len];exact room
   have gw:∀(b:Bool) (s1:Shared) (R:Unit->Shared->Prop),R () s1->wpAny (model prog w) A (match b with | true=>rule "set.scan.the-table-gave-way" | false=>pure ()) R E s1:=fun b s1 R hq=>by
    cases b
    ·exact wpAny_pure hq
    ·exact wpAny_rule hq
   refine wpAny_bind (gw gv _ _ ?_)
   split
   ·refine wpAny_bind ?_
    rw[hashByValue_scannable 8 (x:=.int k tk) rfl]
    refine wpAny_pure ?_
    simp only[plainKind,↓reduceIte]
    refine yI ?_ ho el1 pk b1 f1 ti1 ?_
    ·intro b s1 R hq
     cases b
     ·exact wpAny_pure hq
     ·exact wpAny_rule hq
    ·intro h' sb g
     exact wpAny_pure (h h' true sb g)
   ·refine wpAny_bind (wpAny_pure ?_)
    simp only[↓reduceIte]
    refine yI ?_ ho el1 pk b1 f1 ti1 ?_
    ·intro b s1 R hq
     cases b
     ·exact wpAny_pure hq
     ·exact wpAny_rule hq
    ·intro h' sb g
     exact wpAny_pure (h h' true sb g)
end
theorem bQ:Slot "set_iterator" "__next__" "set_iterator.__next__":=.of (owner := "set_iterator") (n := "__next__") (by rw[typeLookup_type,builtinLookup_eq_fast];kernel_rfl) (by decide +kernel) (by decide +kernel) (by decide +kernel) (by first | exact .inl (by decide +kernel) | exact .inr (by decide +kernel)) (by rw[isSubtype_type];kernel_rfl)
theorem uP:Slot "set_iterator" "__iter__" "set_iterator.__iter__":=.of (owner := "set_iterator") (n := "__iter__") (by rw[typeLookup_type,builtinLookup_eq_fast];kernel_rfl) (by decide +kernel) (by decide +kernel) (by decide +kernel) (by first | exact .inl (by decide +kernel) | exact .inr (by decide +kernel)) (by rw[isSubtype_type];kernel_rfl)
theorem eY:entryFor table "set_iterator.__next__"=some Builtin.«set_iterator.__next__»:=entryFor_of_fast (by kernel_rfl)
theorem zp:entryFor table "set_iterator.__iter__"=some Builtin.«dict_keyiterator.__iter__»:=entryFor_alias (id' := "dict_keyiterator.__iter__") (by kernel_rfl) rfl (by decide +kernel) (by kernel_rfl)
theorem qW:entryFor table "set.__iter__"=some Builtin.«frozenset.__iter__»:=entryFor_alias (id' := "frozenset.__iter__") (by kernel_rfl) rfl (by decide +kernel) (by kernel_rfl)
theorem gB(a:Value):argsOk "set_iterator.__next__" ⟨[a],[]⟩:=by unfold argsOk;kernel_rfl
theorem Av(a:Value):argsOk "set_iterator.__iter__" ⟨[a],[]⟩:=by unfold argsOk;kernel_rfl
theorem uF {α:Type} (next:Nat->Nat):∀ (fuel k:Nat) (left:List α) (out:Array α),left.length=fuel->(pickOrder.go next fuel k left out).toList.Perm (out.toList++left)
 |0,k,left,out,h=>by
   have:left=[]:=List.length_eq_zero_iff.mp h
   subst this
   unfold pickOrder.go
   simp
 | fuel + 1,k,left,out,h=>by
   unfold pickOrder.go
   have hm:next k%left.length<left.length:=Nat.mod_lt _ (by omega)
   generalize next k%left.length=m at hm
   rw[List.getElem?_eq_getElem hm]
   dsimp only
   refine (uF next fuel (k+1) (left.eraseIdx m) (out.push left[m]) (by rw[List.length_eraseIdx,if_pos hm];omega)).trans ?_
   rw[Array.toList_push,List.append_assoc]
   refine List.Perm.append_left _ ?_
   have:∀ (l:List α) (t:Nat) (ht:t<l.length),(l[t]::l.eraseIdx t).Perm l:=by
    intro l
    induction l with
    |nil=>intro t ht;exact absurd ht (by simp)
    |cons a l ih=>
      intro t ht
      cases t with
      |zero=>exact .refl _
      |succ t=>exact (List.Perm.swap a _ _).trans ((ih t (by simpa using ht)).cons a)
   exact this left m hm
theorem xV{α:Type}(next:Nat->Nat)(xs:Array α):(pickOrder next xs).toList.Perm xs.toList:=by
 unfold pickOrder
 exact (uF next xs.size 0 xs.toList #[] (by simp)).trans (by simp)
section
variable{prog:Program}{w:World}{A:Around}{E:Value->Shared->Prop}{s:Shared}
theorem qY{src:Source}{n:Nat}{Q:Nat->Shared->Prop}(hn:n≠0)(h:∀i d',i<n->Q i { s with drawn:=d' }):wpAny (model prog w) A (choose src n) Q E s:=fun Γ p hΓ=>⟨hn,h _ _ (Nat.mod_lt _ (by omega))⟩
theorem qM:∀ (n:Nat) (xs:List Nat) {s:Shared}{Q:List Nat->Shared->Prop},xs.length=n->(∀ ys d',ys.Perm xs->Q ys { s with drawn:=d' })->wpAny (model prog w) A (drawOrder n xs) Q E s
 |0,xs,s,Q,h,q=>by
   have:xs=[]:=List.length_eq_zero_iff.mp h
   subst this
   unfold drawOrder
   exact wpAny_pure (q [] s.drawn (.refl _))
 |n+1,[],s,Q,h,q=>by cases h
 | n + 1,x::xs,s,Q,h,q=>by
   unfold drawOrder
   refine wpAny_bind (qY (by simp) fun i d' hi=>?_)
   rw[List.getElem?_eq_getElem hi]
   dsimp only
   refine wpAny_bind (qM n ((x::xs).eraseIdx i) (by rw[List.length_eraseIdx,if_pos hi];simp at h ⊢;omega) fun ys d2 p=>wpAny_pure (q _ d2 ?_))
   refine (p.cons _).trans ?_
   have:∀ (l:List Nat) (t:Nat) (ht:t<l.length),(l[t]::l.eraseIdx t).Perm l:=by
    intro l
    induction l with
    |nil=>intro t ht;exact absurd ht (by simp)
    |cons a l ih=>
      intro t ht
      cases t with
      |zero=>exact .refl _
      |succ t=>exact (List.Perm.swap a _ _).trans ((ih t (by simpa using ht)).cons a)
   exact this _ i hi
end
abbrev iC(vs:Array Value):Obj:={ cls:=.type "set_iterator",data:=.fields vs }
abbrev cA(w:World):Bool:=w.params.followText "set-order"
def kJ(w:World)(h:Heap)(I a tp:Addr)(es:Array (Int×Value))(ep:Nat)(t:SetTable)(ord:List Value)(i:Nat):Prop:=
 (cA w=true∧h.get? I=some (iC #[.int 0 0,.int i 0,.ref a,.int es.size 0,.int ep 0])∧ord=(pickOrder (w.params.setOrder a ep) es).toList.map (·.2))
 ∨ (cA w=false∧(!t.plain&&decide (es.size > 1))=false∧∃sl:Nat,h.get? I=some (iC #[.int sl 0,.int i 0,.ref a,.int es.size 0,.int ep 0])∧SetTable.below t.place sl=i∧ord=es.toList.map (·.2))
 ∨ (cA w=false∧(!t.plain&&decide (es.size > 1))=true∧∃ps,tp≠I∧h.get? I=some (iC #[.ref tp,.int i 0,.ref a,.int es.size 0,.int ep 0])∧h.get? tp=some { cls:=.type "tuple",data:=.seq ((ps:List Nat).map fun (p:Nat)=>rawInt (p:Int)).toArray }∧ps.Perm (List.range es.size)∧ord=ps.map (fun p=>(es.getD p (0,.none)).2))
section
variable{prog:Program}{w:World}{A:Around}{E:Value->Shared->Prop}{s:Shared}{I a tp:Addr}{es:Array (Int×Value)}{ep:Nat}{t:SetTable}{ord:List Value}{i:Nat}
theorem fU{h:Heap}{vs:Array Value}{k:Nat}{v:Value}(e:h.get? I=some (iC vs)):(h.update I (Obj.mapFields (·.setIfInBounds k v))).get? I=some (iC (vs.setIfInBounds k v)):=by
 have q:=Heap.get?_update_self (Obj.mapFields (·.setIfInBounds k v)) e (Obj.isFreed_of_fields (Obj.data_mapFields rfl _))
 rw[q]
 rfl
theorem xN(hb:cA w=true)(ho:s.heap.get? a=some (bc es ep t))(hf:t.fits es.size=true){sl:Nat}{Q:Option (Value×Nat)->Shared->Prop}(q:Q (((pickOrder (w.params.setOrder a ep) es)[i]?).map fun e=>(e.2,sl)) s) :
  wpAny (model prog w) A (setNext a sl i ep) Q E s:=by
 unfold setNext setsByText
 refine wpAny_bind (wpAny_setState_of ho rfl hf ?_)
 refine wpAny_bind (wpAny_bind (wpAny_askSetting (wpAny_pure ?_)))
 have hb':(model prog w).w.params.followText "set-order"=true:=hb
 rw[if_pos hb']
 simp only[bne_self_eq_false,Bool.false_eq_true,↓reduceIte]
 unfold setWalk setsByText
 refine wpAny_bind (wpAny_bind (wpAny_setState_of ho rfl hf ?_))
 refine wpAny_bind (wpAny_bind (wpAny_askSetting (wpAny_pure ?_)))
 rw[if_pos hb']
 exact wpAny_bind (wpAny_askSetting (wpAny_pure (wpAny_pure q)))
theorem xO (hb:cA w=false) (hd:(!t.plain && decide (es.size > 1))=false) (ti:TI (!cA w) t) (ho:s.heap.get? a=some (bc es ep t)) (hf:t.fits es.size=true) {sl:Nat}{Q:Option (Value×Nat)->Shared->Prop}
  (q:Q (match es[SetTable.below t.place sl]?,t.place[SetTable.below t.place sl]? with
    |some (_,x),some j=>some (x,j+1)
    |_,_=>none) s):wpAny (model prog w) A (setNext a sl i ep) Q E s:=by
 unfold setNext setsByText
 refine wpAny_bind (wpAny_setState_of ho rfl hf ?_)
 refine wpAny_bind (wpAny_bind (wpAny_askSetting (wpAny_pure ?_)))
 have hb':¬ (model prog w).w.params.followText "set-order"=true:=by rw[show (model prog w).w.params.followText "set-order"=cA w from rfl,hb];decide
 rw[if_neg hb']
 have hl:t.led=true:=by rw[ti.led,hb];rfl
 show wpAny _ _ (if (!t.plain&&decide (es.size > 1))=true then _ else _) _ _ _
 rw[hd,if_neg (by decide)]
 refine wpAny_bind ?_
 show wpAny _ _ (if (!t.led&&!es.isEmpty)=true then _ else _) _ _ _
 rw[hl]
 exact wpAny_pure (wpAny_pure q)
theorem next_item (ho:s.heap.get? a=some (bc es ep t)) (hf:t.fits es.size=true) (ti:TI (!cA w) t) (hne:a≠I) (c:kJ w s.heap I a tp es ep t ord i) (hi:i<ord.length) {Q:Option Value->Shared->Prop}
  (q:∀h',Heap.SameBut I s.heap h'->kJ w h' I a tp es ep t ord (i+1)->Q (some ord[i]) { s with heap:=h' }):wpAny (model prog w) A (pyNext (.ref I)) Q E s:=by
 have ho':∀(k:Nat) (v:Value),(s.heap.update I (Obj.mapFields (·.setIfInBounds k v))).get? a=some (bc es ep t):=fun k v=>by
  rw[Heap.get?_update_other _ _ (fun z=>hne z.symm)];exact ho
 have sz:(((es.size:Nat):Int) != ((es.size:Nat):Int))=false:=bne_self_eq_false _
 have sb2:∀(v1 v2:Value) (k1 k2:Nat),Heap.SameBut I s.heap ((s.heap.update I (Obj.mapFields (·.setIfInBounds k1 v1))).update I (Obj.mapFields (·.setIfInBounds k2 v2))):=fun v1 v2 k1 k2=>(Heap.SameBut.update _ I _).trans (Heap.SameBut.update _ I _)
 rcases c with ⟨hb,hI,e⟩ | ⟨hb,hd,sl,hI,hs,e⟩ | ⟨hb,hd,ps,htp,hI,hT,hp,e⟩
 ·have ty:s.TypeIs (.ref I) "set_iterator":=⟨_,hI,rfl⟩
  unfold pyNext
  refine wpAny_bind (wpAny_attempt (wpAny_callSpecial?_slot (name:=Str.ofString "__next__") ty bQ (wpAny_call_entry bQ ty eY ?_ (gB _))))
  unfold Builtin.«set_iterator.__next__» slotArgs
  refine wpAny_bind (wpAny_pure ?_)
  refine wpAny_bind (wpAny_fieldsOf hI rfl ?_)
  dsimp only
  refine wpAny_bind (wpAny_setEntries_of ho rfl hf ?_)
  rw[sz,if_neg (by decide)]
  refine wpAny_bind (xN hb ho hf ?_)
  have hi':i<(pickOrder (w.params.setOrder a ep) es).size:=by rw[e] at hi;simpa using hi
  have oi:ord[i]=((pickOrder (w.params.setOrder a ep) es)[i]).2:=by subst e;simp
  rw[show ((i:Int)).toNat=i from Int.toNat_natCast i,Array.getElem?_eq_getElem hi']
  dsimp only[Option.map_some]
  refine wpAny_bind (wpAny_setField hI rfl (by simp) ?_)
  refine wpAny_bind (wpAny_setField (fU hI) rfl (by simp) ?_)
  refine wpAny_pure ⟨_,rfl,wpAny_pure ?_⟩
  rw[←oi]
  refine q _ (sb2 _ _ _ _) (.inl ⟨hb,?_,e⟩)
  rw[fU (fU hI)]
  simp[rawInt]
 ·have ty:s.TypeIs (.ref I) "set_iterator":=⟨_,hI,rfl⟩
  unfold pyNext
  refine wpAny_bind (wpAny_attempt (wpAny_callSpecial?_slot (name:=Str.ofString "__next__") ty bQ (wpAny_call_entry bQ ty eY ?_ (gB _))))
  unfold Builtin.«set_iterator.__next__» slotArgs
  refine wpAny_bind (wpAny_pure ?_)
  refine wpAny_bind (wpAny_fieldsOf hI rfl ?_)
  dsimp only
  refine wpAny_bind (wpAny_setEntries_of ho rfl hf ?_)
  rw[sz,if_neg (by decide)]
  refine wpAny_bind (xO hb hd ti ho hf ?_)
  have hi':i<es.size:=by rw[e] at hi;simpa using hi
  have hps:t.place.size=es.size:=by
   simp only[SetTable.fits,Bool.and_eq_true,beq_iff_eq] at hf
   exact hf.1
  have hi2:i<t.place.size:=by rw[hps];exact hi'
  have oi:ord[i]=(es[i]).2:=by subst e;simp
  rw[show ((sl:Int)).toNat=sl from Int.toNat_natCast sl,hs,Array.getElem?_eq_getElem hi',Array.getElem?_eq_getElem hi2]
  dsimp only
  refine wpAny_bind (wpAny_setField hI rfl (by simp) ?_)
  refine wpAny_bind (wpAny_setField (fU hI) rfl (by simp) ?_)
  refine wpAny_pure ⟨_,rfl,wpAny_pure ?_⟩
  rw[←oi]
  refine q _ (sb2 _ _ _ _) (.inr (.inl ⟨hb,hd,t.place[i]+1,?_,uZ ti.ris hi2,e⟩))
  rw[fU (fU hI)]
  simp[rawInt]
 ·have ty:s.TypeIs (.ref I) "set_iterator":=⟨_,hI,rfl⟩
  have hpl:ps.length=es.size:=by rw[hp.length_eq,List.length_range]
  have hi':i<ps.length:=by rw[e] at hi;simpa using hi
  have hpi:ps[i]<es.size:=List.mem_range.mp (hp.mem_iff.mp (List.getElem_mem hi'))
  unfold pyNext
  refine wpAny_bind (wpAny_attempt (wpAny_callSpecial?_slot (name:=Str.ofString "__next__") ty bQ (wpAny_call_entry bQ ty eY ?_ (gB _))))
  unfold Builtin.«set_iterator.__next__» slotArgs
  refine wpAny_bind (wpAny_pure ?_)
  refine wpAny_bind (wpAny_fieldsOf hI rfl ?_)
  dsimp only
  refine wpAny_bind (wpAny_setEntries_of ho rfl hf ?_)
  rw[sz,if_neg (by decide)]
  refine wpAny_bind (wpAny_seqItems hT rfl ?_)
  have g:((ps.map fun (p:Nat)=>rawInt (p:Int)).toArray)[i]?=some (rawInt (ps[i]:Int)):=by simp[hi']
  rw[show ((i:Int)).toNat=i from Int.toNat_natCast i]
  dsimp only
  rw[g]
  dsimp only[rawInt]
  unfold setNextDrawn
  refine wpAny_bind (wpAny_bind (wpAny_setState_of ho rfl hf ?_))
  simp only[bne_self_eq_false,Bool.false_eq_true,↓reduceIte,Int.toNat_natCast]
  rw[Array.getElem?_eq_getElem hpi]
  dsimp only
  refine wpAny_pure ?_
  refine wpAny_bind (wpAny_setField hI rfl (by simp) ?_)
  refine wpAny_pure ⟨_,rfl,wpAny_pure ?_⟩
  have oi:ord[i]=(es[ps[i]]).2:=by subst e;simp[hpi]
  rw[←oi]
  refine q _ (Heap.SameBut.update _ I _) (.inr (.inr ⟨hb,hd,ps,htp,?_,?_,hp,e⟩))
  ·rw[fU hI]
   simp
  ·rw[Heap.get?_update_other _ _ (fun z=>htp z.symm)];exact hT
end
section
variable{prog:Program}{w:World}{A:Around}{E:Value->Shared->Prop}{s:Shared}{I a tp:Addr}{es:Array (Int×Value)}{ep:Nat}{t:SetTable}{ord:List Value}{i:Nat}
theorem oE(hh:A.handled=none){R:Fin->Shared->Prop}{Q:Option Value->Shared->Prop}(q:∀h',(∀b o,s.heap.get? b=some o->h'.get? b=some o)->Q none { s with heap:=h' }) :
  wpAny (model prog w) A.in1 (do raiseNew (←newExc (.type "StopIteration") [])) R (fun e s'=>wpAny (model prog w) A (do if ←isInstance e (.type "StopIteration") then pure none else throw e) Q E s') s:=by
 refine wpAny_bind ?_
 simp only[newExc,newTuple]
 refine wpAny_bind (wpAny_newObj_type ?_ (by size_fits))
 refine wpAny_bind (m:=firstArgMember _ _) (wpAny_of_eq (a:=.none) (by first | rfl | (simp only[firstArgMember];rfl)) (wpAny_newObj_type ?_ (by size_fits)))
 simp only[raiseNew]
 refine wpAny_bind (wpAny_handled ?_)
 have h1:A.in1.handled=none:=hh
 rw[h1]
 refine wpAny_bind (wpAny_pure (wpAny_throw ?_))
 refine wpAny_bind (wpAny_isInstance (T := "StopIteration") (b:=true) ⟨_,Heap.get?_push_size _ rfl,rfl⟩ isSubtype_stop ?_)
 exact wpAny_pure (q _ fun b o e=>Heap.get?_push_of_some _ (Heap.get?_push_of_some _ e))
theorem next_end(hh:A.handled=none)(ho:s.heap.get? a=some (bc es ep t))(hf:t.fits es.size=true)(ti:TI (!cA w) t)(c:kJ w s.heap I a tp es ep t ord ord.length){Q:Option Value->Shared->Prop}
  (q:∀h',(∀b o,b≠I->s.heap.get? b=some o->h'.get? b=some o)->Q none { s with heap:=h' }):wpAny (model prog w) A (pyNext (.ref I)) Q E s:=by
 have sz:(((es.size:Nat):Int) != ((es.size:Nat):Int))=false:=bne_self_eq_false _
 have k1:∀(v1:Value) (k1:Nat) b o,b≠I->s.heap.get? b=some o->(s.heap.update I (Obj.mapFields (·.setIfInBounds k1 v1))).get? b=some o:=fun v1 k1 b o hb e=>by
  rw[Heap.get?_update_other _ _ (fun z=>hb z.symm)];exact e
 rcases c with ⟨hb,hI,e⟩ | ⟨hb,hd,sl,hI,hs,e⟩ | ⟨hb,hd,ps,htp,hI,hT,hp,e⟩
 ·have ty:s.TypeIs (.ref I) "set_iterator":=⟨_,hI,rfl⟩
  unfold pyNext
  refine wpAny_bind (wpAny_attempt (wpAny_callSpecial?_slot (name:=Str.ofString "__next__") ty bQ (wpAny_call_entry bQ ty eY ?_ (gB _))))
  unfold Builtin.«set_iterator.__next__» slotArgs
  refine wpAny_bind (wpAny_pure (wpAny_bind (wpAny_fieldsOf hI rfl ?_)))
  dsimp only
  refine wpAny_bind (wpAny_setEntries_of ho rfl hf ?_)
  rw[sz,if_neg (by decide)]
  refine wpAny_bind (xN hb ho hf ?_)
  have hi':(pickOrder (w.params.setOrder a ep) es)[((ord.length:Int)).toNat]?=none:=by rw[Int.toNat_natCast,Array.getElem?_eq_none_iff,e];simp
  rw[hi']
  dsimp only[Option.map_none]
  refine wpAny_bind (wpAny_setField hI rfl (by simp) ?_)
  exact oE hh fun h' k=>q h' fun b o hb e=>k b o (k1 _ _ b o hb e)
 ·have ty:s.TypeIs (.ref I) "set_iterator":=⟨_,hI,rfl⟩
  unfold pyNext
  refine wpAny_bind (wpAny_attempt (wpAny_callSpecial?_slot (name:=Str.ofString "__next__") ty bQ (wpAny_call_entry bQ ty eY ?_ (gB _))))
  unfold Builtin.«set_iterator.__next__» slotArgs
  refine wpAny_bind (wpAny_pure (wpAny_bind (wpAny_fieldsOf hI rfl ?_)))
  dsimp only
  refine wpAny_bind (wpAny_setEntries_of ho rfl hf ?_)
  rw[sz,if_neg (by decide)]
  refine wpAny_bind (xO hb hd ti ho hf ?_)
  have hi':es[ord.length]?=none:=by rw[Array.getElem?_eq_none_iff,e];simp
  rw[show ((sl:Int)).toNat=sl from Int.toNat_natCast sl,hs,hi']
  dsimp only
  refine wpAny_bind (wpAny_setField hI rfl (by simp) ?_)
  exact oE hh fun h' k=>q h' fun b o hb e=>k b o (k1 _ _ b o hb e)
 ·have ty:s.TypeIs (.ref I) "set_iterator":=⟨_,hI,rfl⟩
  unfold pyNext
  refine wpAny_bind (wpAny_attempt (wpAny_callSpecial?_slot (name:=Str.ofString "__next__") ty bQ (wpAny_call_entry bQ ty eY ?_ (gB _))))
  unfold Builtin.«set_iterator.__next__» slotArgs
  refine wpAny_bind (wpAny_pure (wpAny_bind (wpAny_fieldsOf hI rfl ?_)))
  dsimp only
  refine wpAny_bind (wpAny_setEntries_of ho rfl hf ?_)
  rw[sz,if_neg (by decide)]
  refine wpAny_bind (wpAny_seqItems hT rfl ?_)
  have g:((ps.map fun (p:Nat)=>rawInt (p:Int)).toArray)[((ord.length:Int)).toNat]?=none:=by rw[Int.toNat_natCast,Array.getElem?_eq_none_iff,e];simp
  dsimp only
  rw[g]
  dsimp only
  refine wpAny_bind (wpAny_setField hI rfl (by simp) ?_)
  refine wpAny_bind (wpAny_setField (fU hI) rfl (by simp) ?_)
  refine oE hh fun h' k=>q h' fun b o hb e=>k b o ?_
  rw[Heap.get?_update_other _ _ (fun z=>hb z.symm)]
  exact k1 _ _ b o hb e
theorem zx (ho:s.heap.get? a=some (bc es ep t)) (hf:t.fits es.size=true) (ti:TI (!cA w) t) (hb:es.size<scanBound) {Q:Value->Shared->Prop}
  (q:∀h' d' I tp ord,s.heap.objs.size≤I->(∀b o,s.heap.get? b=some o->h'.get? b=some o)->I<h'.objs.size->(tp=a∨(s.heap.objs.size≤tp∧tp<h'.objs.size))->kJ w h' I a tp es ep t ord 0->ord.Perm (es.toList.map (·.2))->Q (.ref I) { s with heap:=h',drawn:=d' }):wpAny (model prog w) A (pyIter (.ref a)) Q E s:=by
 have ty:s.TypeIs (.ref a) "set":=⟨_,ho,rfl⟩
 refine wpAny_pyIter_slot ty F.slot_set_iter (wpAny_call_entry F.slot_set_iter ty qW ?_ (F.args_set_iter_1 _))
 unfold Builtin.«frozenset.__iter__» Builtin.Frozenset.slot0 slotArgs Builtin.Frozenset.addrOf Builtin.Frozenset.sizeOf setDrawn setsByText
 simp only[List.isEmpty_nil,Bool.not_true,Bool.false_eq_true,↓reduceIte,bind_assoc,List.length_nil,bne_self_eq_false]
 refine wpAny_bind (wpAny_pure (wpAny_bind (wpAny_pure ?_)))
 refine wpAny_bind (wpAny_setEntries_of ho rfl hf (wpAny_bind (wpAny_pure ?_)))
 refine wpAny_bind (wpAny_setState_of ho rfl hf ?_)
 refine wpAny_bind (wpAny_askSetting (wpAny_bind (wpAny_pure (wpAny_bind (wpAny_pure ?_)))))
 show wpAny _ _ (if (!cA w&&(!t.plain&&decide (es.size > 1)))=true then _ else _) _ _ _
 by_cases hc:(!cA w&&(!t.plain&&decide (es.size > 1)))=true
 ·rw[if_pos hc]
  rw[Bool.and_eq_true] at hc
  have hB:cA w=false:=by simpa using hc.1
  refine wpAny_bind (qM es.size (List.range es.size) (by simp) fun ps d' hp=>?_)
  have pl:ps.length=es.size:=by rw[hp.length_eq,List.length_range]
  simp only[newTuple,newFields]
  refine wpAny_bind (wpAny_newObj_type ?_ (by show _≤sizeLine;have:=fits_of_scanBound hb;simp;omega))
  have ho1:=Heap.get?_push_of_some { cls:=.type "tuple",data:=.seq ((ps.map fun (i:Nat)=>rawInt (i:Int)).toArray) } ho
  refine wpAny_bind (wpAny_setEpoch_of ho1 rfl hf ?_)
  refine wpAny_bind (wpAny_newObj_type (wpAny_pure ⟨_,rfl, "set_iterator",_,⟨_,Heap.get?_push_size _ rfl,rfl⟩,bQ.lookup,?_⟩) (by show _≤_;simp[sizeLine_eq]))
  refine q _ d' _ s.heap.objs.size (ps.map (fun p=>(es.getD p (0,.none)).2)) (by dsimp only;simp only[Heap.size_push];omega) (fun b o e=>Heap.get?_push_of_some _ (Heap.get?_push_of_some _ e)) (by dsimp only;simp only[Heap.size_push];omega) (.inr ⟨Nat.le_refl _,by dsimp only;simp only[Heap.size_push];exact Nat.lt_succ_of_lt (Nat.lt_succ_self _)⟩) (.inr (.inr ⟨hB,hc.2,ps,?_,Heap.get?_push_size _ rfl,Heap.get?_push_of_some _ (Heap.get?_push_size _ rfl),hp,rfl⟩)) ?_
  ·dsimp only;simp only[Heap.size_push];exact Nat.ne_of_lt (Nat.lt_succ_self _)
  ·refine (hp.map _).trans (List.Perm.of_eq ?_)
   apply List.ext_getElem?
   intro k
   by_cases hk:k<es.size
   ·simp[hk,Array.getD]
   ·rw[List.getElem?_eq_none (by simp;omega),List.getElem?_eq_none (by simp;omega)]
 ·rw [if_neg hc]
  refine wpAny_bind (wpAny_pure ?_)
  simp only[newFields]
  refine wpAny_bind (wpAny_setEpoch_of ho rfl hf ?_)
  refine wpAny_bind (wpAny_newObj_type (wpAny_pure ⟨_,rfl, "set_iterator",_,⟨_,Heap.get?_push_size _ rfl,rfl⟩,bQ.lookup,?_⟩) (by show _≤_;simp[sizeLine_eq]))
  have fin:∀ord,kJ w (s.heap.push (iC #[.int 0 0,.int 0 0,.ref a,.int es.size 0,.int ep 0])) s.heap.objs.size a a es ep t ord 0->ord.Perm (es.toList.map (·.2))->Q (.ref s.heap.objs.size) { s with heap:=s.heap.push (iC #[.int 0 0,.int 0 0,.ref a,.int es.size 0,.int ep 0]) }:=fun ord c p=>
   q _ s.drawn s.heap.objs.size a ord (Nat.le_refl _) (fun b o e=>Heap.get?_push_of_some _ e) (by rw[Heap.size_push];omega) (.inl rfl) c p
  cases hB:cA w with
  |true=>exact fin _ (.inl ⟨hB,Heap.get?_push_size _ rfl,rfl⟩) ((xV _ es).map _)
  |false=>
    rw[hB] at hc
    have hd:(!t.plain&&decide (es.size > 1))=false:=by simpa using hc
    exact fin _ (.inr (.inl ⟨hB,hd,0,Heap.get?_push_size _ rfl,u9 ti.ris,rfl⟩)) (.refl _)
theorem kJ.at{h h':Heap}(c:kJ w h I a tp es ep t ord i)(k1:∀o,h.get? I=some o->h'.get? I=some o)(k2:∀o,h.get? tp=some o->h'.get? tp=some o):kJ w h' I a tp es ep t ord i:=by
 rcases c with ⟨hb,hI,e⟩ | ⟨hb,hd,sl,hI,hs,e⟩ | ⟨hb,hd,ps,htp,hI,hT,hp,e⟩
 ·exact .inl ⟨hb,k1 _ hI,e⟩
 ·exact .inr (.inl ⟨hb,hd,sl,k1 _ hI,hs,e⟩)
 ·exact .inr (.inr ⟨hb,hd,ps,htp,k1 _ hI,k2 _ hT,hp,e⟩)
theorem kJ.ty{h:Heap}(c:kJ w h I a tp es ep t ord i):∃vs,h.get? I=some (iC vs):=by
 rcases c with ⟨hb,hI,e⟩ | ⟨hb,hd,sl,hI,hs,e⟩ | ⟨hb,hd,ps,htp,hI,hT,hp,e⟩<;>exact⟨_,hI⟩
theorem yN(hh:A.handled=none)(hf:t.fits es.size=true)(ti:TI (!cA w) t)(hne:a≠I) :
  Walks prog w A I [I,a,tp] [I] ord.length (fun i v=>ord[i]?=some v) (fun i h=>h.get? a=some (bc es ep t)∧kJ w h I a tp es ep t ord i) where
 sub:=fun b hb=>by simp at hb;simp[hb]
 frame:=fun _ _ _ st hk=>⟨hk a (by simp) _ st.1,st.2.at (fun o e=>hk I (by simp) o e) fun o e=>hk tp (by simp) o e⟩
 item:=fun i s Q E hi st hQ=>next_item st.1 hf ti hne st.2 hi fun h' sb c=>hQ _ h' s.toks (by simp[hi]) ⟨sb.extBut a _ hne st.1,c⟩ fun b o hb e=>sb.extBut b o (fun h=>hb (by simp[h])) e
 done:=fun s Q E st hQ=>next_end hh st.1 hf ti st.2 fun h' k=>hQ h' s.toks fun b o hb e=>k b o (fun h=>hb (by simp[h])) e
 self:=fun i s Q E st hQ=>by
  obtain⟨vs,hI⟩:=st.2.ty
  have ty:s.TypeIs (.ref I) "set_iterator":=⟨_,hI,rfl⟩
  exact wpAny_pyIter_slot ty uP (wpAny_call_entry uP ty zp (wpAny_pure ⟨_,rfl, "set_iterator",_,ty,bQ.lookup,hQ⟩) (Av _))
end
theorem SetG.at{prog:Program}{w:World}{L:Bool}{h h':Heap}{a:Addr}{ks:List Int}(g:SetG prog w L h a ks)(k:∀o,h.get? a=some o->h'.get? a=some o):SetG prog w L h' a ks:=by
 obtain⟨es,ep,t,ho,r⟩:=g.ex
 exact⟨es,ep,t,k _ ho,r⟩
theorem oA (ks:List Int) (k:Int):(if k∈ks then ks else ks++[k])=step_dedup ks k:=by
 unfold step_dedup
 by_cases h:k∈ks
 ·rw[if_pos h,if_pos (List.any_eq_true.mpr ⟨k,h,by simp⟩)]
 ·rw[if_neg h,if_neg (fun z=>by
   obtain⟨x,hx,e⟩:=List.any_eq_true.mp z
   exact h (by rw[←beq_iff_eq.mp e];exact hx))]
section
variable{prog:Program}{w:World}{A:Around}{R:Result->Shared->Prop}{I:Addr}{fp wr:List Addr}{G:Array GenState->Array GenState->Prop}{n:Nat}{P:Nat->Value->Prop}{St:Nat->Shared->Prop}{L:Bool}
theorem gk (W:WalksS prog w A.in1 I fp wr G n P St) (S:Addr) (hSf:S∉fp) (val:Nat->Int) (hval:∀ i v,P i v->∃ t,v=.int (val i) t) (hb:n + 1<scanBound):∀ (k i:Nat) (s:Shared),n - i=k->i≤n->St i s->SetG prog w L s.heap S (firstMet val i)->
  (∀s',Moved (S::wr) G s s'->SetG prog w L s'.heap S (firstMet val n)->R (.ok (.ret .none)) s')->codeAny (model prog w) A (.builtin "set.update.loop" ⟨[.ref S,.ref I],[]⟩) R s:=by
 have nw:S∉wr:=fun h=>hSf (W.sub _ h)
 have sub:∀b∈wr,b∈S::wr:=fun b hb=>.tail _ hb
 intro k
 induction k with
 |zero=>
   intro i s hk hi hst g hR
   obtain rfl:i=n:=by omega
   refine codeAny_builtin PyProof.Rows.F.entry_set_update_loop ?_
   rw[Around.under_plainId PyProof.Rows.F.plain_set_update_loop _]
   refine wpAny_bind (m:=pyNext (.ref I)) (W.done s _ _ hst fun s' hm=>?_)
   exact wpAny_pure (hR s' (hm.mono sub) (g.at fun o e=>hm.heap S _ nw e))
 | succ k ih=>
   intro i s hk hi hst g hR
   have lt:i<n:=by omega
   refine codeAny_builtin PyProof.Rows.F.entry_set_update_loop ?_
   rw[Around.under_plainId PyProof.Rows.F.plain_set_update_loop _]
   refine wpAny_bind (m:=pyNext (.ref I)) (W.item i s _ _ lt hst fun v s' hP hst' hm=>?_)
   obtain⟨t,rfl⟩:=hval i v hP
   have g':=g.at (h':=s'.heap) fun o e=>hm.heap S _ nw e
   refine wpAny_bind (m:=holding [Value.int (val i) t] (setAdd S (.int (val i) t))) (wpAny_holding ?_)
   unfold setAdd
   refine wpAny_holding (wpAny_bind ((intKind prog w).pyHash (k:=val i) (intKind_is _ _ _ _) ?_))
   have room:(firstMet val i).length+1<scanBound:=by have:=firstMet_length_le val i;omega
   refine add_int (s:={ s' with toks:=s'.toks+1 }) g' room fun h' b sb g2=>?_
   rw[oA,←firstMet_succ] at g2
   refine wpAny_pure ⟨plainId_quiet PyProof.Rows.F.plain_set_update_loop _,ih (i+1) _ (by omega) lt (W.frame _ s' _ _ hst' (Nat.le_succ _) fun c hc o e=>?_) g2 fun s2 hm2 g3=>?_⟩
   ·rw[sb.2 c (fun z=>hSf (z ▸ hc))];exact e
   ·refine hR s2 (Moved.trans W.gtrans ((hm.mono sub).then_heap (Nat.le_succ _) fun c o hc e=>?_) hm2) g3
    rw[sb.2 c (fun z=>hc (z ▸ List.mem_cons_self))];exact e
end
section
variable{prog:Program}{w:World}{A:Around}{E:Value->Shared->Prop}{s:Shared}
theorem Bm(v:Value){Q:Value->Shared->Prop}(h:Q (.ref s.heap.objs.size) { s with heap:=s.heap.push (bc #[] 0 (.fresh 0 0 (!cA w))) }) :
  codeAny (model prog w) A (.call (.builtin "set.__new__") ⟨[.type "set",v],[]⟩) (wants Q E) s:=by
 refine codeAny_of_tree (wpAny_bind (m:=checkBuiltinCall "set.__new__" ⟨[.type "set",v],[]⟩) (wpAny_of_eq (F.newCall_set_1 v) (wpAny_pure ⟨plainId_quiet F.plain_set_new _,codeAny_builtin F.entry_set_new ?_⟩)))
 rw[Around.under_plainId F.plain_set_new _]
 unfold Builtin.«set.__new__» Builtin.Frozenset.newClass
 have hsub:=sub_set_self
 obtain⟨hp,g,d,tk,os⟩:=s
 dsimp only
 wp_walk
 refine wpAny_askSetting (wpAny_pure ?_)
 dsimp only
 simp only[newObj]
 exact wpAny_bind (wpAny_alloc (wpAny_pure (wpAny_pure h)))
theorem qJ {l:Addr}{items:Array Value}{ns:List Int}{Q:Value->Shared->Prop} (hh:A.handled=none) (hl:s.heap.IsList l items) (hi:IntsAre items.toList ns) (hb:items.size + 1<scanBound)
  (h:∀(h':Heap) (tk:Nat),SetG prog w (!cA w) h' s.heap.objs.size (firstMet (fun i=>ns.getD i 0) items.size)->(∀b o,b<s.heap.objs.size->s.heap.get? b=some o->h'.get? b=some o)->Q (.ref s.heap.objs.size) { s with heap:=h',toks:=tk }) :
  wpAny (model prog w) A (call (.type "set") [.ref l]) Q E s:=by
 obtain⟨c,tl,hmro⟩:=F.called_set.mro
 have hmade:=F.called_set.made
 have hsub:=F.called_set.sub
 refine wpAny_call (codeAny_of_tree (wpAny_pure ⟨Code.quiet_builtin _ (by decide +kernel),codeAny_builtin F.entry_type_call ?_⟩))
 rw[Around.under_plain (weight_type_call_type "set" [.ref l] []) rfl]
 have h1:=F.called_set.notType
 have h2:=F.called_set.canCreate
 have hct:=F.typeCall_set_1 (.ref l)
 repeat (any_goals (first | assumption | wp_step))
 refine codeAny_mono (Bm (.ref l) (E:=E) (Q:=fun obj s1=>obj=.ref s.heap.objs.size∧s1={ s with heap:=s.heap.push (bc #[] 0 (.fresh 0 0 (!cA w))) }) ⟨rfl,rfl⟩) fun r s1 hr=>?_
 cases r with
 |error e=>exact hr
 | ok fl=>
   cases fl with
   | ret obj=>
     obtain⟨rfl,rfl⟩:=hr
     have hS:(s.heap.push (bc #[] 0 (.fresh 0 0 (!cA w)))).get? s.heap.objs.size=some (bc #[] 0 (.fresh 0 0 (!cA w))):=Heap.get?_push_size _ rfl
     have hT:Shared.TypeIs { s with heap:=s.heap.push (bc #[] 0 (.fresh 0 0 (!cA w))) } (.ref s.heap.objs.size) "set":=⟨_,hS,rfl⟩
     have hli:=F.called_set.init.lookup
     have hbi:=F.called_set.init.bind (.ref s.heap.objs.size)
     repeat (any_goals (first | assumption | wp_step))
     refine codeAny_mono (codeAny_call_builtin (R:=wants (fun r s2=>r=.none∧∃h' tk,s2={ s with heap:=h',toks:=tk }∧SetG prog w (!cA w) h' s.heap.objs.size (firstMet (fun i=>ns.getD i 0) items.size) ∧
       (∀b o,b<s.heap.objs.size->s.heap.get? b=some o->h'.get? b=some o)) E) F.called_set.init.plain F.entry_set_init (check_set_init_1 hT ?_)) fun r2 s2 hr2=>?_
     ·obtain ⟨ol,hol,hcl,nl,hdl⟩:=hl
      obtain⟨ocls,odict,odata,oslots⟩:=ol
      simp only at hcl hdl
      subst hcl;subst hdl
      have hol':(s.heap.push (bc #[] 0 (.fresh 0 0 (!cA w)))).get? l=some { cls:=.type "list",dict:=odict,data:=.seq items nl,slots:=oslots }:=Heap.get?_push_of_some _ hol
      have hsls:=F.sub_list_set
      have hslf:=F.sub_list_frozenset
      have hne:(Value.type "list"==Value.type "dict")=false:=by decide
      have hl1:(s.heap.push (bc #[] 0 (.fresh 0 0 (!cA w)))).IsList l items:=⟨_,hol',rfl,nl,rfl⟩
      unfold Builtin.«set.__init__» noKeywords Builtin.Frozenset.updateFrom
      generalize hPI:pyIter=PI
      wp_walk
      subst hPI
      refine wpAny_pyIter_list hl1 (wpAny_bind (wpAny_runValue ?_))
      have hlS:l<s.heap.objs.size:=Heap.lt_size hol
      have hh3:A.in1.in1.in1.handled=none:=by simp[hh]
      have hneI:l≠(s.heap.push (bc #[] 0 (.fresh 0 0 (!cA w)))).objs.size:=by
       rw[Heap.size_push];exact Nat.ne_of_lt (Nat.lt_succ_of_lt hlS)
      have hSf:s.heap.objs.size∉[(s.heap.push (bc #[] 0 (.fresh 0 0 (!cA w)))).objs.size,l]:=by
       rw[Heap.size_push];simp only[List.mem_cons,List.mem_singleton,List.not_mem_nil,or_false,not_or]
       exact⟨Nat.ne_of_lt (Nat.lt_succ_self _),Nat.ne_of_gt hlS⟩
      have hval:∀(i:Nat) (v:Value),items[i]?=some v->∃t,v=.int ((fun i=>ns.getD i 0) i) t:=fun i v hv=>IntsAre.int_at hi i v (by rw[Array.getElem?_toList];exact hv)
      refine gk (L:=!cA w) ((Walks.list hh3 _ l hneI items).toS) s.heap.objs.size hSf (fun i=>ns.getD i 0) hval hb (items.size-0) 0 _ (by omega) (Nat.zero_le _) ⟨⟨_,Heap.get?_push_size _ rfl,rfl,rfl⟩,(hl1.push _)⟩ ?hS0 ?hR
      case hS0=>exact⟨#[],0,_,Heap.get?_push_of_some _ hS,(fun e he=>by simp at he),.refl _,rfl,TI.fresh 0 0,by decide⟩
      case hR=>
       intro s' hm hS'
       obtain⟨h',g',d',tk',os'⟩:=s'
       have eg:g'=s.gens:=hm.gens
       have ed:d'=s.drawn:=hm.drawn
       have eo:os'=s.os:=hm.os
       subst eg;subst ed;subst eo
       refine wpAny_pure (wpAny_pure ⟨rfl,h',tk',rfl,hS',fun b o hb e=>?_⟩)
       have hb2:b≠(s.heap.push (bc #[] 0 (.fresh 0 0 (!cA w)))).objs.size:=by
        rw[Heap.size_push];exact Nat.ne_of_lt (Nat.lt_succ_of_lt hb)
       exact hm.heap b o (by simp only[List.mem_cons,List.mem_singleton,List.not_mem_nil,or_false,not_or];exact⟨Nat.ne_of_lt hb,hb2⟩) (Heap.get?_push_of_some _ (Heap.get?_push_of_some _ e))
     ·cases r2 with
      |error e=>exact hr2
      | ok fl2=>
        cases fl2 with
        |ret r=>
          obtain⟨rfl,h',tk,rfl,hS',hk'⟩:=hr2
          repeat (any_goals (first | assumption | wp_step))
          exact h _ _ hS' hk'
        |_=>exact hr2.elim
   |_=>exact hr.elim
end
theorem ints_of {prog:Program}{w:World}:∀ {l:List (Int×Value)},ElemsOf (intKind prog w) l->IntsAre (l.map (·.2)) (fG l)
 |[],_=>.nil
 |e::l,h=>by
   obtain⟨t,q⟩:=su h (List.mem_cons_self (a:=e) (l:=l))
   show IntsAre (e.2::l.map (·.2)) (vInt e.2::fG l)
   have ih:=ints_of (prog:=prog) (w:=w) (l:=l) fun x hx=>h x (.tail _ hx)
   rw[q]
   exact .cons _ _ ih
theorem xq {vs vs':List Value}{ns:List Int} (h:IntsAre vs ns) (p:vs'.Perm vs):∃ ns',IntsAre vs' ns'∧ns'.Perm ns:=by
 have key:∀ {vs:List Value}{ns:List Int},IntsAre vs ns->ns=vs.map vInt∧∀ v∈vs,∃ t,v=.int (vInt v) t:=fun {vs ns} h=>by
  induction h with
  |nil=>exact⟨rfl,fun v hv=>by cases hv⟩
  |cons n t hr ih=>
    refine⟨by rw[List.map_cons,←ih.1];rfl,fun v hv=>?_⟩
    rcases List.mem_cons.mp hv with rfl | hv
    ·exact⟨t,rfl⟩
    ·exact ih.2 v hv
 obtain⟨e,k⟩:=key h
 have back:∀ (l:List Value),(∀ v∈l,∃ t,v=.int (vInt v) t)->IntsAre l (l.map vInt):=by
  intro l
  induction l with
  |nil=>intro _;exact .nil
  |cons v l ih=>
    intro hl
    obtain⟨t,q⟩:=hl v (List.mem_cons_self)
    have r:=ih fun x hx=>hl x (.tail _ hx)
    rw[List.map_cons]
    generalize vInt v=i at q ⊢
    subst q
    exact .cons _ _ r
 refine⟨vs'.map vInt,back vs' fun v hv=>k v (p.mem_iff.mp hv),?_⟩
 rw[e]
 exact p.map _
theorem Ag{a b:Nat}(h:b+1≤a):a≠b:=by omega
section
variable{prog:Program}{w:World}{A:Around}{E:Value->Shared->Prop}{s:Shared}
theorem zr{a:Addr}{es:Array (Int×Value)}{ep:Nat}{t:SetTable}(ho:s.heap.get? a=some (bc es ep t)){Q:Bool->Shared->Prop}(q:Q false s):wpAny (model prog w) A (Builtin.List.listLengthHint (.ref a)) Q E s:=by
 have ty:s.TypeIs (.ref a) "set":=⟨_,ho,rfl⟩
 unfold Builtin.List.listLengthHint
 refine wpAny_bind (wpAny_specialOf ty F.slot_set_len.lookup ?_)
 have sp:splitId "set.__len__"=some ("set", "__len__"):=by decide +kernel
 dsimp only
 rw[sp]
 dsimp only
 refine wpAny_bind (wpAny_isInstance (b:=true) ty sub_set_self ?_)
 refine wpAny_bind (wpAny_typeOf ty ?_)
 exact wpAny_pure q
theorem tZ (hh:A.handled=none) {a:Addr}{ks:List Int} (g:SetG prog w (!cA w) s.heap a ks) {Q:List Value->Shared->Prop} (h:∀ h' tk d' vs ns,IntsAre vs ns->ns.Perm ks->s.heap.objs.size≤h'.objs.size->(∀ b o,s.heap.get? b=some o->h'.get? b=some o)->Q vs { s with heap:=h',toks:=tk,drawn:=d' }):wpAny (model prog w) A (collect (.ref a)) Q E s:=by
 obtain⟨es,ep,t,ho,hel,hp,hf,ti,hb⟩:=g.ex
 have ia:=ints_of hel
 unfold collect
 refine wpAny_bind (wpAny_runValue (codeAny_builtin F.entry_proto_collect ?_))
 rw[Around.under_plainId F.plain_proto_collect _]
 refine wpAny_bind (m:=newList []) (wpAny_newObj_type (wpAny_pure ⟨plainId_quiet F.plain_list_iadd _,codeAny_builtin F.entry_list_iadd ?_⟩))
 rw[Around.under_plainId F.plain_list_iadd _]
 have ha:a<s.heap.objs.size:=Heap.lt_size ho
 have ne:s.heap.objs.size≠a:=fun z=>by rw[z] at ha;exact Nat.lt_irrefl _ ha
 have sr:Builtin.List.listSameRef (.ref s.heap.objs.size) (.ref a)=false:=by simp[Builtin.List.listSameRef,ne]
 have lst0:(s.heap.push (seqObj "list" #[] 0)).get? s.heap.objs.size=some (seqObj "list" #[] 0):=Heap.get?_push_size _ rfl
 have ho1:(s.heap.push (seqObj "list" #[] 0)).get? a=some (bc es ep t):=Heap.get?_push_of_some _ ho
 show wpAny _ A.in1 (Builtin.List.listExtendWith (.ref s.heap.objs.size) (.ref a) (.ref s.heap.objs.size)) _ _ { s with heap:=s.heap.push (seqObj "list" #[] 0) }
 unfold Builtin.List.listExtendWith
 refine wpAny_bind (wpAny_typeOf (T := "set") ⟨_,ho1,rfl⟩ ?_)
 rw[if_neg (by rw[sr];decide)]
 refine wpAny_bind (zx (s:={ s with heap:=s.heap.push (seqObj "list" #[] 0) }) ho1 hf ti hb fun h1 d1 I tp ord hI k1 hI1 htp c po=>?_)
 have ho2:=k1 a _ ho1
 have lst1:=k1 _ _ lst0
 have szI:s.heap.objs.size+1≤I:=by have:(s.heap.push (seqObj "list" #[] 0)).objs.size≤I:=hI;rw[Heap.size_push] at this;exact this
 refine wpAny_bind (wpAny_holding (zr ho2 ?_))
 dsimp only
 refine wpAny_bind (m:=rule _) (wpAny_rule ?_)
 unfold Builtin.List.listTouch
 refine wpAny_bind (wpAny_bind (listUpdate_at lst1 rfl ?_ (by simp) (by simp)))
 have lst2:=get?_update_seq lst1 (fun x:Array Value=>x.push .none)
 refine listUpdate_at lst2 rfl ?_ (by simp[sizeLine_eq]) (by simp)
 have lst3:=get?_update_seq lst2 (fun x:Array Value=>x.pop)
 have up:∀b o,b≠s.heap.objs.size->h1.get? b=some o->((h1.update s.heap.objs.size (Obj.mapSeq fun x=>x.push .none)).update s.heap.objs.size (Obj.mapSeq fun x=>x.pop)).get? b=some o:=fun b o hb e=>by
  rw[Heap.get?_update_ne _ _ _ _ hb,Heap.get?_update_ne _ _ _ _ hb];exact e
 have neI:I≠s.heap.objs.size:=Ag szI
 have netp:tp≠s.heap.objs.size:=by
  rcases htp with z | ⟨z,_⟩
  ·rw[z];exact fun q=>ne q.symm
  ·have:s.heap.objs.size+1≤tp:=by have:(s.heap.push (seqObj "list" #[] 0)).objs.size≤tp:=z;rw[Heap.size_push] at this;exact this
   exact Ag this
 have hne:a≠I:=Nat.ne_of_lt (Nat.lt_trans ha szI)
 have hh1:A.in1.in1.handled=none:=by simp[hh]
 have W:=(yN (prog:=prog) (w:=w) (A:=A.in1) (I:=I) (a:=a) (tp:=tp) (es:=es) (ep:=ep) (t:=t) (ord:=ord) (by simp[hh]) hf ti hne).toS
 have ol:ord.length=es.size:=by rw[po.length_eq];simp
 refine wpAny_pure ⟨plainId_quiet F.plain_extend_loop _,codeAny_extend_loopS W (by rw[ol];exact fits_of_scanBound hb) s.heap.objs.size (by simp;exact⟨fun z=>neI z.symm,ne,fun z=>netp z.symm⟩) _ ord.length 0 _ #[] _ rfl (Nat.zero_le _) ⟨up a _ (fun q=>ne q.symm) ho2,c.at (fun o e=>up I o neI e) fun o e=>up tp o netp e⟩ lst3 (ItemsOf.nil _) fun s' acc c' hm hS' hacc=>?_⟩
 refine wpAny_bind (m:=load s.heap.objs.size) (wpAny_load hS' ?_)
 have ea:acc.toList=ord:=by
  apply List.ext_getElem?
  intro k
  by_cases hk:k<acc.size
  ·have:=hacc.2 k acc[k] (by rw[Array.getElem?_eq_getElem hk])
   rw[this,Array.getElem?_toList,Array.getElem?_eq_getElem hk]
  ·rw[List.getElem?_eq_none (by simp;omega),List.getElem?_eq_none (by have:=hacc.1;omega)]
 obtain⟨h2,g2,d2,tk2,os2⟩:=s'
 have eg:g2=s.gens:=hm.gens
 have ed:d2=d1:=hm.drawn
 have eo:os2=s.os:=hm.os
 subst eg ed eo
 obtain⟨ns,hi,hpn⟩:=xq ia (vs':=acc.toList) (by rw[ea];exact po)
 refine wpAny_pure (h h2 tk2 d2 acc.toList ns hi (hpn.trans hp) (Nat.le_of_lt (Heap.lt_size hS')) fun b o e=>?_)
 have lt:b<s.heap.objs.size:=Heap.lt_size e
 refine hm.heap b o (by simp;exact⟨Nat.ne_of_lt lt,Nat.ne_of_lt (Nat.lt_trans lt szI)⟩) (up b o (Nat.ne_of_lt lt) (k1 b o (Heap.get?_push_of_some _ e)))
theorem wj(hh:A.handled=none){a:Addr}{ks:List Int}(g:SetG prog w (!cA w) s.heap a ks)(h64:ks.length<64){Q:Value->Shared->Prop}
  (h:∀h' tk d' p n vs ns,s.heap.objs.size≤p->h'.get? p=some (seqObj "list" (vs:List Value).toArray n)->IntsAre vs ns->ns.Perm ks->ns.Pairwise (·≤ ·)->(∀b o,s.heap.get? b=some o->h'.get? b=some o)->Q (.ref p) { s with heap:=h',toks:=tk,drawn:=d' }) :
  wpAny (model prog w) A (call (.builtin "sorted") [.ref a]) Q E s:=by
 refine Calls.call_function_entry kind_sorted plain_sorted entry_sorted (args_sorted1 _) ?_
 unfold Builtin.«sorted»
 refine wpAny_bind (m:=checkCount "sorted" 1 1 _) (wpAny_pure ?_)
 refine wpAny_bind (tZ (by simp[hh]) g fun h1 tk1 d1 vs ns hi hp sz k1=>?_)
 have vl:vs.length=ns.length:=IntsAre.length hi
 have nl:ns.length=ks.length:=hp.length_eq
 have zl:vs.toArray.size≤sizeLine:=by rw[List.size_toArray,sizeLine_eq];omega
 refine wpAny_bind (wpAny_newList ?_ zl)
 have oL:(h1.push (seqObj "list" vs.toArray 0)).get? h1.objs.size=some (seqObj "list" vs.toArray 0):=Heap.get?_push_size _ rfl
 refine wpAny_bind (wpAny_holding (wpAny_call_entry slot_list_sort ⟨_,oL,rfl⟩ entry_list_sort (list_sort_tree oL hi (by omega) fun out ns' a1 a2 a3=>⟨_,rfl,?_⟩) (args_list_sort _)))
 obtain⟨e,he⟩:=sortedHeap_at (out:=out) oL
 refine wpAny_pure ⟨_,rfl,h _ _ _ h1.objs.size e out.toList ns' sz (by simpa using he) a1 (a2.trans hp) a3 fun b o eb=>?_⟩
 have lt:=Heap.lt_size (k1 b o eb)
 rw[sortedHeap_old (Nat.ne_of_lt lt) (by rw[size_push'];exact Nat.lt_succ_of_lt lt)]
 exact Heap.get?_push_of_some _ (k1 b o eb)
end
end LS
namespace L2
open PySem PySem.Spec PyProof.Rows LS
def jH(x:Int):List Int->List Int
 |[]=>[x]
 |y::r=>if x≤y then x::y::r else y::jH x r
theorem lq (x:Int):∀ l:List Int,(jH x l).Perm (x::l)
 |[]=>.refl _
 |y::r=>by
   unfold jH
   split
   ·exact .refl _
   ·exact ((lq x r).cons y).trans (.swap x y r)
theorem qO (x:Int):∀ {l:List Int},l.Pairwise (·≤ ·)->(jH x l).Pairwise (·≤ ·)
 |[],_=>by simp[jH]
 | y::r,h=>by
   unfold jH
   split
   ·rename_i c
    refine List.pairwise_cons.mpr ⟨fun z hz=>?_,h⟩
    rcases List.mem_cons.mp hz with rfl | hz
    ·exact c
    ·exact Int.le_trans c ((List.pairwise_cons.mp h).1 z hz)
   ·rename_i c
    have h':=List.pairwise_cons.mp h
    refine List.pairwise_cons.mpr ⟨fun z hz=>?_,qO x h'.2⟩
    rcases List.mem_cons.mp ((lq x r).mem_iff.mp hz) with rfl | hz
    ·omega
    ·exact h'.1 z hz
def dZ(ns:List Int):List Int:=(ns.foldl step_dedup []).foldr jH []
theorem dY:∀ l:List Int,(l.foldr jH []).Perm l∧(l.foldr jH []).Pairwise (·≤ ·)
 |[]=>⟨.refl _,by simp⟩
 |x::l=>by
   obtain⟨a,b⟩:=dY l
   exact⟨(lq x _).trans (a.cons x),qO x b⟩
theorem nj:∀ {a b:List Int},a.Perm b->a.Pairwise (·≤ ·)->b.Pairwise (·≤ ·)->a=b
 |[],b,p,_,_=>p.nil_eq
 |x::a,[],p,_,_=>by have:=p.length_eq;simp at this
 | x::a,y::b,p,ha,hb=>by
   have h1:=List.pairwise_cons.mp ha
   have h2:=List.pairwise_cons.mp hb
   have xy:x=y:=by
    have m1:x∈y::b:=p.mem_iff.mp (List.mem_cons_self)
    have m2:y∈x::a:=p.mem_iff.mpr (List.mem_cons_self)
    rcases List.mem_cons.mp m1 with e | m1
    ·exact e
    ·rcases List.mem_cons.mp m2 with e | m2
     ·exact e.symm
     ·exact Int.le_antisymm (h1.1 y m2) (h2.1 x m1)
   subst xy
   rw[nj (List.Perm.cons_inv p) h1.2 h2.2]
theorem uQ(ns:List Int):(dZ ns).length≤ns.length:=by
 unfold dZ
 rw[(dY _).1.length_eq]
 exact foldl_step_dedup_nil_length_le ns
theorem lg(ns:List Int):firstMet (fun i=>ns.getD i 0) ns.length=ns.foldl step_dedup []:=by
 unfold firstMet
 congr 1
 apply List.ext_getElem?
 intro k
 by_cases hk:k<ns.length
 ·simp[hk]
 ·rw[List.getElem?_eq_none (by simp;omega),List.getElem?_eq_none (by omega)]
theorem lA:∀ {ns:List Int}{us:List Value},Vals (ns.map V.int) us->IntsAre us ns
 |[],_,.nil=>.nil
 |n::ns,_,.cons r rr=>by
   obtain⟨t,rfl⟩:=r
   exact .cons n t (lA rr)
theorem rQ:bootBuiltins "sorted"=some (.builtin "sorted"):=by decide +kernel
theorem qI:bootBuiltins "set"=some (.type "set"):=by decide +kernel
section
variable{X:Cx}
def GJ(ta:TA):TE:=fun σ H Q=>ta σ H fun vs H1=>∃p ns,vs=[.ref p]∧H1 p=some (.lst (ns.map V.int))∧ns.length≤60∧∀l,H1 l=none->Q (.ref l) (upd H1 l (.lst ((dZ ns).map V.int)))
theorem BK {a:Expr}{ta:TA}{p1 p2 pos1 pos2:Pos} (hc:X.calm=true) (hgL:Gl X "sorted") (hmL:X.mg "sorted"=none) (hg:Gl X "set") (hm:X.mg "set"=none) (ha:PA X [a] ta) (hs:notStar a=true:=by rfl) :
  PE X (.Call (.Name "sorted" p1) [.Call (.Name "set" p2) [a] [] pos2] [] pos1) (GJ ta):=by
 intro pins s σ H Q I h
 have hst:starEach [Expr.Call (.Name "set" p2) [a] [] pos2] X.env=(false,eval (.Call (.Name "set" p2) [a] [] pos2) X.env)::starEach [] X.env:=bz rfl
 refine Call_ (ld_blt I hgL hmL rQ (PyProof.Rows.callWith_builtin1 ?_ hst rfl))
 rw[hst]
 show wpAny _ _ (spliced ((false,eval (.Call (.Name "set" p2) [a] [] pos2) X.env)::[])) _ _ s
 refine Calls.spliced_cons ?_
 refine Call_ (ld_blt I hg hm qI (PyProof.Rows.callWith_type1 (thn (ha pos2 pins s σ H _ I h) fun us s1 ⟨vs,H1,I1,r1,q1⟩=>?_) (bz hs) rfl))
 obtain⟨p,ns,e,hp,hl,q⟩:=q1
 subst e
 cases r1 with
 | cons r rr=>
   cases rr
   cases r
   obtain⟨_,its,n,vl,ho⟩:=I1.hok p _ hp
   have ia:=lA vl
   have il:its.length=ns.length:=IntsAre.length ia
   have hd:=I1.ok.hd hc
   refine qJ (items:=its.toArray) (ns:=ns) hd ⟨_,ho,rfl,n,rfl⟩ (by simpa using ia) (by simp[scanBound];omega) fun h1 tk1 g k1=>?_
   refine Calls.spliced_nil ?_
   rw[show its.toArray.size=ns.length from by rw[List.size_toArray];exact il,lg] at g
   have sl:(ns.foldl step_dedup []).length≤60:=Nat.le_trans (foldl_step_dedup_nil_length_le ns) hl
   refine wj (s:={ s1 with heap:=h1,toks:=tk1 }) hd g (by omega) fun h2 tk2 d2 l m ws ms hge hol ims pm so k2=>?_
   have sz:s1.heap.objs.size≤l:=by
    obtain⟨es,ep,t,hs1,_⟩:=g.ex
    exact Nat.le_trans (Nat.le_of_lt (Heap.lt_size hs1)) hge
   have em:ms=dZ ns:=nj (pm.trans (dY _).1.symm) so (dY _).2
   have kk:∀b o,s1.heap.get? b=some o->h2.get? b=some o:=fun b o e=>k2 b o (k1 b o (Heap.lt_size e) e)
   have zl:((dZ ns).map V.int).length≤sizeLine:=by
    rw[List.length_map]
    have:=uQ ns
    show _≤2^24
    omega
   have I2:=I1.call (h':=h2) (t':=tk2) (d':=d2) (g':=s1.gens) (ch:=[]) (Un.laid kk sz (I1.hok.fresh sz)) (I1.hok.laid (o:=.lst ((dZ ns).map V.int)) kk sz ⟨zl,ws,m,by rw[←em];exact vals_ints ims,hol⟩) I1.bare (fun _ z=>nomatch z)
   exact⟨.ref l,upd H1 l (.lst ((dZ ns).map V.int)),I2,rfl,q l (I1.hok.fresh sz)⟩
end
end L2
namespace LS
open PySem PySem.Spec PyProof.Rows
end LS
namespace L2
open PySem PySem.Spec PyProof.Rows LS
theorem wG:bootBuiltins "len"=some (.builtin "len"):=by decide +kernel
end L2
namespace L2
open PySem PySem.Spec PyProof.Rows
section
variable{X:Cx}{CX:CXT}{k:Nat}{f C:Addr}{fd:FuncData}{ps:List Str}{sp:Sp}{E:XK}
theorem vm{j:Nat}(D:MethC X.prog X.w X.K X.mg X.base j C "__repr__" ps sp)(hu:X.A.units+64<cLine)(hr:Room (j+1) X.A)(hx:Passes (cM X.prog X.w) X E) :
  CallR X (.builtin "repr") (fun vs H Q=>∃x dx fs,vs=[.ref x]∧H x=some (.ins C dx fs)∧sp [.ref x] H (fun v H2=>∃n:Str,v=.str n∧Q (.str n) H2) E):=by
 intro pins s σ H vs us Q I r h
 obtain⟨x,dx,fs,rfl,hx',q⟩:=h
 obtain⟨f,fd,F,b,kp,a,n⟩:=D.ex
 obtain⟨u,rfl,ru⟩:=vals1 r
 cases ru
 obtain⟨mA,O,_⟩:=ins_get I.hok hx'
 obtain⟨od,IA,_⟩:=O.look
 refine Calls.call_function_entry PySem.F.kind_repr PySem.F.plain_repr PySem.F.entry_repr (PySem.F.args_repr1 _) ?_
 unfold Builtin.«repr»
 refine wpAny_bind (m:=oneArg "repr" _) (wpAny_pure ?_)
 refine wpAny_bind (wpAny_cRoomFor (by show X.A.units+1<cLine;omega) ?_)
 refine wpAny_bind (wpAny_bind (IA.type.here ((PySem.W.looks_findIn I.kIn a).here ?_)))
 show wpAny _ _ (if (some (Value.ref f)).isNone=true then _ else _) _ _ _
 rw[if_neg (by simp)]
 refine wpAny_bind (m:=callSpecialIfBound? (.ref x) (Str.ofString "__repr__") _) (PySem.W.ifBound_K I.kIn IA a n (wpAny_mono (qm (vs:=[.ref x]) F hr.in1 b hx I (.cons rfl .nil) q) (fun w' s' hw=>?_) fun _ _ y=>y))
 obtain⟨v,H2,I2,rv,m,rfl,qq⟩:=hw
 obtain⟨t,rfl⟩:=rv
 refine wpAny_bind (wpAny_isInstance (typeIs_str _ _ _) isSubtype_str_str ?_)
 first
  |exact wpAny_pure ⟨_,rfl,.str m,H2,I2,⟨_,rfl⟩,qq⟩
  |(rw[if_pos rfl];exact wpAny_pure ⟨_,rfl,.str m,H2,I2,⟨_,rfl⟩,qq⟩)
theorem TyOf.looks {pins:List (Addr×Obj)}{σ:St}{H:Hp}{s:Shared}{x:V}{u:Value}{T:String} (I:Inv X pins σ H s) (rx:RelV x u) (ty:TyOf X.K H x (.type T)):PySem.W.Looks (model X.prog X.w) s.heap (typeOf u) (.type T):=by
 cases ty with
 |non=>cases (show u=Value.none from rx);exact PySem.W.kitx_none.ty _ _ I.kIn True.intro
 |bl y=>cases (show u=Value.bool y from rx);exact PySem.W.kitx_bool.ty _ _ I.kIn True.intro
 |int i=>obtain⟨t,q⟩:=(show ∃t,u=Value.int i t from rx);cases q;exact PySem.W.kitx_int.ty _ _ I.kIn True.intro
 |str y=>obtain⟨t,q⟩:=(show ∃t,u=Value.str y t from rx);cases q;exact PySem.W.kitx_str.ty _ _ I.kIn True.intro
 |flt y=>obtain⟨t,q⟩:=(show ∃t,u=Value.float y t from rx);cases q;exact PySem.W.kitx_float.ty _ _ I.kIn True.intro
 | @lst a xs ea=>
   cases (show u=Value.ref a from rx)
   obtain⟨_,_,n,_,h1⟩:=(show ObjOk X.prog X.w H s.heap a (.lst xs) from I.hok a _ ea)
   exact PySem.W.kitx_list.ty _ _ I.kIn ⟨_,h1,rfl⟩
 | @frz a ob xs ea=>
   cases (show u=Value.ref a from rx)
   obtain⟨_,_,_,n,_,h1⟩:=(show ObjOk X.prog X.w H s.heap a (.frz ob (.lst xs)) from I.hok a _ ea)
   exact PySem.W.kitx_list.ty _ _ I.kIn ⟨_,h1,rfl⟩
 | @tup a xs ea=>
   cases (show u=Value.ref a from rx)
   obtain⟨_,_,_,p⟩:=(show ObjOk X.prog X.w H s.heap a (.tup xs) from I.hok a _ ea)
   obtain⟨o,h1,h2,_⟩:=p
   exact PySem.W.kitx_tuple.ty _ _ I.kIn ⟨o,h1,h2⟩
 | @dK a kvs ea=>
   cases (show u=Value.ref a from rx)
   obtain⟨_,_,vs,_,p⟩:=(show ObjOk X.prog X.w H s.heap a (.dK kvs) from I.hok a _ ea)
   obtain⟨o,es,ep,h1,h2,_⟩:=p
   exact PySem.W.kitx_dict.ty _ _ I.kIn ⟨o,h1,h2.1⟩
 | @dT a kvs ea=>
   cases (show u=Value.ref a from rx)
   obtain⟨_,_,xs,_,o,es,ep,h1,h2,_⟩:=(show ObjOk X.prog X.w H s.heap a (.dT kvs) from I.hok a _ ea)
   exact PySem.W.kitx_dict.ty _ _ I.kIn ⟨o,h1,h2.1⟩
def rM(K:PySem.W.Frag)(H:Hp)(C:Addr)(y:V):Prop:=(∃b dx fs,y=.ref b∧H b=some (.ins C dx fs))∨∃T,TyOf K H y (.type T)∧PySem.W.subIn K (.type T) (.ref C)=some false
theorem rM.to{pins:List (Addr×Obj)}{σ:St}{H:Hp}{s:Shared}{y:V}{u:Value}(I:Inv X pins σ H s)(ry:RelV y u)(h:rM X.K H C y):∃t,PySem.W.Looks (model X.prog X.w) s.heap (typeOf u) t∧(t=.ref C∨(t≠.ref C∧PySem.W.Looks (model X.prog X.w) s.heap (isSubtype t (.ref C)) false)):=by
 rcases h with ⟨b,dx,fs,rfl,hb⟩ | ⟨T,ty,sb⟩
 ·cases ry
  obtain⟨mA,O,_⟩:=ins_get I.hok hb
  obtain⟨od,IA,_⟩:=O.look
  exact⟨_,IA.type,.inl rfl⟩
 ·exact⟨_,ty.looks I ry,.inr ⟨(fun z=>by cases z),PySem.W.looks_subIn I.kIn sb⟩⟩
theorem DK{j:Nat}(D:MethC X.prog X.w X.K X.mg X.base j C "__eq__" ps sp)(hu:X.A.units+64<cLine)(hr:Room j X.A)(hx:Passes (cM X.prog X.w) X E) :
  OpR X (compareOp .Eq) (fun x y H Q=>∃a dx fs,x=.ref a∧H a=some (.ins C dx fs)∧rM X.K H C y∧sp [.ref a,y] H (fun v H2=>∃b:Bool,v=.bl b∧Q (.bl b) H2) E):=by
 intro pins s σ H x y v u Q I rx ry h
 obtain⟨a,dx,fs,rfl,hx',rg,q⟩:=h
 obtain⟨f,fd,F,b,kp,fi,n⟩:=D.ex
 cases rx
 obtain⟨mA,O,_⟩:=ins_get I.hok hx'
 obtain⟨od,IA,_⟩:=O.look
 obtain⟨t,lt,ht⟩:=rg.to I ry
 show wpAny _ _ (richCompare .Eq (.ref a) u) _ _ _
 unfold richCompare
 simp only[oneThing_ref]
 refine wpAny_holding ?_
 refine wpAny_bind (wpAny_cRoomFor (by omega) ?_)
 rw[cmpInfo_Eq]
 dsimp only
 refine wpAny_bind (IA.type.here ?_)
 refine wpAny_bind (lt.here ?_)
 have fin:wpAny (model X.prog X.w) X.A (tryCompare (.ref a) "__eq__" u) (fun o s'=>∃v,o=some v∧EP X pins σ Q v s') X.xe s:=by
  unfold tryCompare
  refine wpAny_bind (PySem.W.ifBound_K I.kIn IA fi n (wpAny_mono (run_fn (vs:=[.ref a,y]) (dvs:=[]) (ds:=[]) F hr b .nil hx I (.cons rfl (.cons ry .nil)) q) (fun w' s' hw=>?_) fun _ _ y=>y))
  obtain⟨v,H2,I2,rv,m,rfl,qq⟩:=hw
  cases (show w'=Value.bool m from rv)
  exact wpAny_pure ⟨_,rfl,.bl m,H2,I2,rfl,qq⟩
 rcases ht with rfl | ⟨ne,sb⟩
 ·rw[show (Value.ref C != Value.ref C)=false from by simp]
  simp only[Bool.false_eq_true,if_false]
  refine wpAny_bind (wpAny_pure ?_)
  simp only[Bool.false_eq_true,if_false]
  refine wpAny_bind (wpAny_mono fin (fun o s' ho=>?_) fun _ _ e=>e)
  obtain⟨v,rfl,hv⟩:=ho
  exact wpAny_pure hv
 ·rw[show (Value.ref C != t)=true from by simpa using Ne.symm ne]
  simp only[if_true]
  refine wpAny_bind (sb.here ?_)
  simp only[Bool.false_eq_true,if_false]
  refine wpAny_bind (wpAny_mono fin (fun o s' ho=>?_) fun _ _ e=>e)
  obtain⟨v,rfl,hv⟩:=ho
  exact wpAny_pure hv
theorem xn{M:Model}{A:Around}{E:Value->Shared->Prop}{s:Shared}{K:PySem.W.Frag}{x C:Addr}{ox:Obj}{od:Option Obj}{name:Str}{id:String}{args:List Value}{Q:Option Value->Shared->Prop}(Xk:K.In s.heap)(I:PySem.W.InstAt s.heap x ox C od)(hs:PySem.W.findIn K (.ref C) name=some (some (.builtin id)))
  (hb:∀self,bindSpecial (.builtin id) self=pure (.builtin id,[self])) (h:wpAny M A (call (.builtin id) (.ref x::args)) (fun v=>Q (some v)) E s):wpAny M A (callSpecialIfBound? (.ref x) name args) Q E s:=by
 simp only[callSpecialIfBound?,bindSpecialIfBound?]
 refine wpAny_holding (wpAny_bind (wpAny_bind (wpAny_bind (I.type.here ((PySem.W.looks_findIn Xk hs).here ?_)))))
 refine wpAny_bind (wpAny_askSetting (wpAny_ite ?_))
 have fin:wpAny M A (call (.builtin id) ([.ref x]++args)>>=fun v=>pure (some v)) Q E s:=wpAny_bind (wpAny_mono h (fun v s' h'=>wpAny_pure h') fun _ _ h'=>h')
 split
 ·exact wpAny_bind ((PySem.W.Looks.of_pure (hb _)).here (wpAny_pure (by exact fin)))
 ·exact wpAny_tryCatch (wpAny_bind ((PySem.W.Looks.of_pure (hb _)).here (wpAny_pure (by exact fin))))
theorem DQ{j:Nat}(D:MethC X.prog X.w X.K X.mg X.base j C "__eq__" ps sp)(hne:PySem.W.findIn X.K (.ref C) "__ne__"=some (some (.builtin "object.__ne__")))(hm:PySem.W.mroIn X.K C (.type "object")=some true)(hu:X.A.units+64<cLine)(hr:Room (j+1) X.A)(hx:Passes (cM X.prog X.w) X E) :
  OpR X (compareOp .NotEq) (fun x y H Q=>∃a dx fs,x=.ref a∧H a=some (.ins C dx fs)∧rM X.K H C y∧sp [.ref a,y] H (fun v H2=>∃b:Bool,v=.bl b∧Q (.bl (!b)) H2) E):=by
 intro pins s σ H x y v u Q I rx ry h
 obtain⟨a,dx,fs,rfl,hx',rg,q⟩:=h
 obtain⟨f,fd,F,b,kp,fi,n⟩:=D.ex
 cases rx
 obtain⟨mA,O,_⟩:=ins_get I.hok hx'
 obtain⟨od,IA,_⟩:=O.look
 obtain⟨t,lt,ht⟩:=rg.to I ry
 show wpAny _ _ (richCompare .NotEq (.ref a) u) _ _ _
 unfold richCompare
 simp only[oneThing_ref]
 refine wpAny_holding ?_
 refine wpAny_bind (wpAny_cRoomFor (by omega) ?_)
 rw[cmpInfo_NotEq]
 dsimp only
 refine wpAny_bind (IA.type.here ?_)
 refine wpAny_bind (lt.here ?_)
 have fin:wpAny (model X.prog X.w) X.A (tryCompare (.ref a) "__ne__" u) (fun o s'=>∃v,o=some v∧EP X pins σ Q v s') X.xe s:=by
  unfold tryCompare
  refine wpAny_bind (xn I.kIn IA hne PySem.F.cmp_object.ne.bind (wpAny_call (codeAny_call_builtin PySem.F.cmp_object.ne.plain PySem.F.cmpEntry_ne (PySem.W.check_slot (i := "object.__ne__") (owner := "object") (n := "__ne__") PySem.F.cmpKind_ne PySem.F.cmpSplit_ne (IA.type.andThen (PySem.W.looks_mroIn I.kIn hm)) (PySem.F.cmpArgs_ne _ _) ?_))))
  unfold Builtin.«object.__ne__»
  refine wpAny_bind (m:=slotArgs "__ne__" 1 _) (wpAny_pure ?_)
  refine wpAny_bind (m:=cRoomFor _ _) (wpAny_cRoomFor (by show X.A.units+1<cLine;omega) ?_)
  refine wpAny_bind (m:=callSpecialIfBound? (.ref a) (Str.ofString "__eq__") _) (PySem.W.ifBound_K I.kIn IA fi n (wpAny_mono (qm (vs:=[.ref a,y]) F hr.in1 b hx I (.cons rfl (.cons ry .nil)) q) (fun w' s' hw=>?_) fun _ _ y=>y))
  obtain⟨v,H2,I2,rv,m,rfl,qq⟩:=hw
  cases (show w'=Value.bool m from rv)
  refine wpAny_bind (m:=truthy (.bool m)) (wpAny_truthy_bool ?_)
  exact wpAny_pure (wpAny_pure ⟨_,rfl,.bl (!m),H2,I2,rfl,qq⟩)
 rcases ht with rfl | ⟨ne,sb⟩
 ·rw[show (Value.ref C != Value.ref C)=false from by simp]
  simp only[Bool.false_eq_true,if_false]
  refine wpAny_bind (wpAny_pure ?_)
  simp only[Bool.false_eq_true,if_false]
  refine wpAny_bind (wpAny_mono fin (fun o s' ho=>?_) fun _ _ e=>e)
  obtain⟨v,rfl,hv⟩:=ho
  exact wpAny_pure hv
 ·rw[show (Value.ref C != t)=true from by simpa using Ne.symm ne]
  simp only[if_true]
  refine wpAny_bind (sb.here ?_)
  simp only[Bool.false_eq_true,if_false]
  refine wpAny_bind (wpAny_mono fin (fun o s' ho=>?_) fun _ _ e=>e)
  obtain⟨v,rfl,hv⟩:=ho
  exact wpAny_pure hv
theorem wH(hc:PySem.W.kitOne X.K (.ref C) (.ref C)=some true)(hn:PySem.W.findIn X.K (.ref C) "__class__"=some (some (.builtin "object.__class__")))(hs:PySem.W.specialIn X.K (.builtin "object.__class__") "__get__"=some (some (.builtin "getset_descriptor.__get__")))(htk:PySem.W.takesIn X.K (.builtin "object.__class__")=some true)
  (hm:PySem.W.mroIn X.K C (.type "object")=some true) (cl:Cls X.K C) :
  CallR X (.builtin "isinstance") (fun xs H Q=>∃x,xs=[x,.ref C]∧((∃a dx fs,x=.ref a∧H a=some (.ins C dx fs)∧Q (.bl true) H)∨∃T,TyOf X.K H x (.type T)∧PySem.W.kitOne X.K (.type T) (.ref C)=some false∧Q (.bl false) H)):=by
 intro pins s σ H xs us Q I r h
 obtain⟨x,rfl,h⟩:=h
 obtain⟨u,w',rfl,r1,r2⟩:=vals2 r
 cases r2
 rcases h with ⟨a,dx,fs,rfl,ha,q⟩ | ⟨T,ty,e,q⟩
 ·exact isinst_ok I r1 (.ins ha cl hn hs htk hm) hc fun tk=>⟨.bl true,H,I.tok _,rfl,q⟩
 ·exact isinst_ok I r1 ty e fun tk=>⟨.bl false,H,I.tok _,rfl,q⟩
def GC(tv:TE):TE:=fun σ H Q=>tv σ H fun x H1=>∃f a xs ds,x=.ref a∧H1 a=some (.tup xs)∧RepsF H1 f xs ds∧(PyData.tuple ds).showable=true∧(PyData.tuple ds).depth≤60∧bB (.tuple ds)≤sizeLine∧Q (.str (PyData.tuple ds).shown) H1
theorem BJ{e:Expr}{tv:TE}{pos:Pos}(hg:X.A.guards=some [])(hu:X.A.units+64<cLine)(he:PE X e tv):PE X (.FormattedValue e 114 none pos) (GC tv):=by
 intro pins s σ H Q I h
 have ev:=wpAny_FormattedValue_repr (prog:=X.prog) (w:=X.w) (A:=X.A) (value:=e) (pos:=pos) (env:=X.env) (E:=X.xe) (s:=s) (Q:=EP X pins σ Q)
 refine ev (thn (he pins s σ H _ I h) fun v s1 ⟨x,H1,I1,r1,q1⟩=>?_)
 obtain⟨f,a,xs,ds,rfl,h,hs,ho,hd,hz,q⟩:=q1
 cases r1
 have hz':=Nat.le_trans (jU (.tup h hs) ho) hz
 obtain⟨its,rv,⟨o,h1,h2,n,h3⟩,_⟩:=I1.tuple (SqT.of h)
 obtain⟨as,ra⟩:=RepsF.reads I1 hs rv
 simp only[PyData.shown] at hz' q
 obtain⟨bs,hb,hk⟩:=RepsF.k I1 hs rv (by simpa only[PyData.showable] using ho) fun t ht=>Nat.le_trans (tupleText_mem_le ht) hz'
 simp only[PyData.depth] at hd
 unfold pyReprObj
 refine wpAny_bind (m:=cRoomFor _ _) (wpAny_cRoomFor (by omega) ?_)
 refine wpAny_bind (wpAny_specialOf (name:=Str.ofString "__repr__") ⟨_,h1,h2⟩ PySem.F.slot_tuple_repr.lookup ?_)
 refine wpAny_bind (m:=callSpecialIfBound? (.ref a) (Str.ofString "__repr__")) (wpAny_callSpecialIfBound?_slotG (name:=Str.ofString "__repr__") ⟨_,h1,h2⟩ PySem.F.slot_tuple_repr ?_)
 refine call_tuple_reprK h1 h2 h3 (pO (.tuple h1 h2 h3 ra) (by simp only[PyData.depth]) hb).1 hk hg (fun b _=>Clear.nil b) (by show X.A.units+_<_;omega) (fun _ _ e=>e) (fun h' u tk hk=>?_) hz'
 refine wpAny_bind (wpAny_isInstance (T := "str") (b:=true) rfl isSubtype_str_str ?_)
 rw[if_pos rfl]
 exact wpAny_pure (wpAny_formatField_str ⟨.str _,H1,I1.kept hk,⟨_,rfl⟩,q⟩ ⟨.str _,H1,I1.kept hk,⟨_,rfl⟩,q⟩ hz')
end
end L2
namespace L2
open PySem PySem.Spec PyProof.Rows LS
section
variable{X:Cx}
def Ff(ta:TA):TE:=fun σ H Q=>ta σ H fun vs H1=>∃(p:Addr) (ns:List Int),vs=[.ref p]∧H1 p=some (.lst (ns.map V.int))∧ns.length≤60∧Q (.int (ns.foldl step_dedup []).length) H1
theorem zM {a:Expr}{ta:TA}{p1 p2 pos1 pos2:Pos} (hc:X.calm=true) (hgL:Gl X "len") (hmL:X.mg "len"=none) (hg:Gl X "set") (hm:X.mg "set"=none) (ha:PA X [a] ta) (hs:notStar a=true:=by rfl) :
  PE X (.Call (.Name "len" p1) [.Call (.Name "set" p2) [a] [] pos2] [] pos1) (Ff ta):=by
 intro pins s σ H Q I h
 have hst:starEach [Expr.Call (.Name "set" p2) [a] [] pos2] X.env=(false,eval (.Call (.Name "set" p2) [a] [] pos2) X.env)::starEach [] X.env:=bz rfl
 refine Call_ (ld_blt I hgL hmL wG (PyProof.Rows.callWith_builtin1 ?_ hst rfl))
 rw[hst]
 show wpAny _ _ (spliced ((false,eval (.Call (.Name "set" p2) [a] [] pos2) X.env)::[])) _ _ s
 refine Calls.spliced_cons ?_
 refine Call_ (ld_blt I hg hm qI (PyProof.Rows.callWith_type1 (thn (ha pos2 pins s σ H _ I h) fun us s1 ⟨vs,H1,I1,r1,q1⟩=>?_) (bz hs) rfl))
 obtain⟨p,ns,e,hp,hl,q⟩:=q1
 subst e
 cases r1 with
 | cons r rr=>
   cases rr
   cases r
   obtain⟨its,vl,ho,_⟩:=I1.list (SqL.of (K:=X.K) hp)
   have ia:=lA vl
   have il:its.length=ns.length:=IntsAre.length ia
   have hd:=I1.ok.hd hc
   refine qJ (items:=its.toArray) (ns:=ns) hd ho.isList (by simpa using ia) (by simp[scanBound];omega) fun h1 tk1 g k1=>?_
   refine Calls.spliced_nil ?_
   rw[show its.toArray.size=ns.length from by rw[List.size_toArray];exact il,lg] at g
   obtain⟨es,ep,t,hs1,h2,h3,h4,h5,h6⟩:=g.ex
   have el:es.size=(ns.foldl step_dedup []).length:=by
    have:=h3.length_eq
    simpa[fG] using this
   refine call_len_set (s:={ s1 with heap:=h1,toks:=tk1 }) hs1 ⟨rfl,rfl,rfl⟩ rfl h4 (by have:scanBound<2^63:=(by decide);omega) ?_
   rw[el]
   exact⟨.int _,H1,I1.kept fun b o e=>k1 b o (Heap.lt_size e) e,⟨_,rfl⟩,q⟩
end
end L2
namespace LB
open PySem PySem.W PyProof.Rows
end LB
namespace LB
open PySem PySem.W PySem.Calls PyProof.Rows
end LB
namespace L2
open PySem PySem.Spec PyProof.Rows LS LB
end L2
namespace LB
open PySem PySem.W PySem.Calls PyProof.Rows
end LB
namespace L2
open PySem PySem.Spec PyProof.Rows LS LB
end L2
namespace LA
open PySem LS
end LA
namespace LA
open PySem LS PyProof.Rows
end LA
namespace L2
open PySem PySem.Spec PyProof.Rows LS LA LB
end L2
namespace LA
open PySem PySem.Spec PyProof.Rows LS LB
end LA
namespace L2
open PySem PySem.Spec PyProof.Rows LS LA LB
end L2
namespace LA
open PySem PySem.Spec PyProof.Rows LS
end LA
namespace L3
open PySem PySem.Spec L2
open PyProof.Rows hiding St
inductive D where
 |non | bl (b:Bool) | int (i:Int) | str (x:Str)
 |tup (l:List D) | lst (l:List D)
 |dic (ks:List Key) (vs:List D)
 |obj (c:Str) (ns:List Str) (vs:List D)
 |scr (ns:List Int)
 |ref (n:Nat)
 |cls (c:Str) | ty (t:String)
 |exn (a:Addr)
instance:Inhabited D:=⟨.non⟩
inductive DO where
 |lst (l:List D)
 |dic (ks:List Key) (vs:List D)
 |ins (c:Str) (ns:List Str) (vs:List D)
abbrev Mo:=List DO
inductive R(α:Type) where
 |ok (a:α) | exc (c:Str)
def DM(α:Type):=Mo->Option (R α×Mo)
@[reducible] def DM.pure{α:Type}(a:α):DM α:=fun M=>some (.ok a,M)
def DM.bind{α β:Type}(m:DM α)(f:α->DM β):DM β:=fun M=>match m M with
 |none=>none
 |some (.exc c,M')=>some (.exc c,M')
 |some (.ok a,M')=>f a M'
instance:Monad DM where
 pure:=DM.pure
 bind:=DM.bind
def rd{α:Type}(f:Mo->Option α):DM α:=fun M=>(f M).map fun a=>(.ok a,M)
def opt{α:Type}(o:Option α):DM α:=fun M=>o.map fun a=>(.ok a,M)
def stuck{α:Type}:DM α:=fun _=>none
def raise{α:Type}(c:Str):DM α:=fun M=>some (.exc c,M)
abbrev aa:=List (Option D)
structure Rh where
 st:List Addr
 vo:List Addr
instance:Membership Addr Rh:=⟨fun ρ a=>a∈ρ.st∨a∈ρ.vo⟩
def Rh.put(ρ:Rh)(p:Addr):Rh:=⟨ρ.st++[p],ρ.vo⟩
def Rh.hold(ρ:Rh)(p:Addr):Rh:=⟨ρ.st,p::ρ.vo⟩
mutual
inductive Cv(mg:Str->Option Value)(ρ:Rh)(H:Hp):V->D->Prop
 |non:Cv mg ρ H .non .non
 |bl (b:Bool):Cv mg ρ H (.bl b) (.bl b)
 |int (i:Int):Cv mg ρ H (.int i) (.int i)
 |str (x:Str):Cv mg ρ H (.str x) (.str x)
 |tup {a:Addr}{xs:List V}{ds:List D}:a∉ρ->H a=some (.tup xs)->Cvs mg ρ H xs ds->Cv mg ρ H (.ref a) (.tup ds)
 |lst {a:Addr}{xs:List V}{ds:List D}:a∉ρ->H a=some (.lst xs)->Cvs mg ρ H xs ds->Cv mg ρ H (.ref a) (.lst ds)
 |dic {a:Addr}{ks:List Key}{xs:List V}{ds:List D}:a∉ρ->H a=some (.dK (ks.zip xs))->ks.length=xs.length->Cvs mg ρ H xs ds->Cv mg ρ H (.ref a) (.dic ks ds)
 |obj {a C dx:Addr}{c:Str}{ns:List Str}{xs:List V}{ds:List D}:a∉ρ->mg c=some (.ref C)->H a=some (.ins C dx (ns.zip xs))->ns.length=xs.length->Cvs mg ρ H xs ds->Cv mg ρ H (.ref a) (.obj c ns ds)
 |scr {a:Addr}{ns:List Int}:a∉ρ->Rd H a (.lst (ns.map V.int))->Cv mg ρ H (.ref a) (.scr ns)
 |ref {n:Nat}{a:Addr}:ρ.st[n]?=some a->Cv mg ρ H (.ref a) (.ref n)
 |cls {c:Str}{C:Addr}:mg c=some (.ref C)->Cv mg ρ H (.ref C) (.cls c)
 |ty (t:String):Cv mg ρ H (.ty t) (.ty t)
 |exn (a:Addr):Cv mg ρ H (.ref a) (.exn a)
inductive Cvs(mg:Str->Option Value)(ρ:Rh)(H:Hp):List V->List D->Prop
 |nil:Cvs mg ρ H [] []
 |cons {v:V}{d:D}{vs:List V}{ds:List D}:Cv mg ρ H v d->Cvs mg ρ H vs ds->Cvs mg ρ H (v::vs) (d::ds)
end
structure Ext(ρ:Rh)(H:Hp)(ρ':Rh)(H':Hp):Prop where
 pre:∃τ,ρ'.st=ρ.st++τ
 vo:ρ'.vo=ρ.vo
 new:∀a,a∈ρ'.st->a∉ρ.st->H a=none
 keep:∀a o,H a=some o->a∉ρ.st->H' a=some o
theorem Ext.refl{ρ:Rh}{H:Hp}:Ext ρ H ρ H:=⟨⟨[],by simp⟩,rfl,fun a h n=>absurd h n,fun _ _ h _=>h⟩
theorem Ext.keeps{ρ ρ':Rh}{H H':Hp}(e:Ext ρ H ρ' H'){a:Addr}{o:HO}(h:H a=some o)(n:a∉ρ):H' a=some o:=e.keep a o h fun z=>n (.inl z)
theorem Ext.out1{ρ ρ':Rh}{H H':Hp}(e:Ext ρ H ρ' H'){a:Addr}{o:HO}(h:H a=some o)(n:a∉ρ.st):a∉ρ'.st:=fun z=>by
 have:=e.new a z n
 rw[h] at this;cases this
theorem Ext.out{ρ ρ':Rh}{H H':Hp}(e:Ext ρ H ρ' H'){a:Addr}{o:HO}(h:H a=some o)(n:a∉ρ):a∉ρ':=fun z=>by
 rcases z with z | z
 ·exact e.out1 h (fun y=>n (.inl y)) z
 ·rw[e.vo] at z;exact n (.inr z)
theorem Ext.trans {ρ ρ1 ρ2:Rh}{H H1 H2:Hp} (e:Ext ρ H ρ1 H1) (f:Ext ρ1 H1 ρ2 H2):Ext ρ H ρ2 H2:=by
 refine⟨?_,f.vo.trans e.vo,fun a h n=>?_,fun a o h n=>f.keep a o (e.keep a o h n) (e.out1 h n)⟩
 ·obtain⟨τ,h1⟩:=e.pre
  obtain⟨υ,h2⟩:=f.pre
  exact⟨τ++υ,by rw[h2,h1,List.append_assoc]⟩
 ·by_cases z:a∈ρ1.st
  ·exact e.new a z n
  ·cases q:H a with
   |none=>rfl
   |some o=>
     have:=f.new a h z
     rw[e.keep a o q n] at this;cases this
theorem Ext.at{ρ ρ':Rh}{H H':Hp}(e:Ext ρ H ρ' H'){n:Nat}{a:Addr}(h:ρ.st[n]?=some a):ρ'.st[n]?=some a:=by
 obtain⟨τ,h1⟩:=e.pre
 rw[h1,List.getElem?_append_left (List.getElem?_eq_some_iff.mp h).1];exact h
theorem Rh.nhold{ρ:Rh}{a p:Addr}(h:a∉ρ)(n:a≠p):a∉ρ.hold p:=fun z=>by
 rcases z with z | z
 ·exact h (.inl z)
 ·rcases List.mem_cons.mp z with z | z
  ·exact n z
  ·exact h (.inr z)
theorem Rd.some{H:Hp}{a:Addr}{u:HO}(h:Rd H a u):∃o,H a=some o:=by
 rcases h with h | ⟨o,h⟩
 ·exact⟨_,h⟩
 ·exact⟨_,h⟩
section
variable{mg:Str->Option Value}{ρ ρ':Rh}{H H':Hp}
mutual
theorem Cv.mono (e:Ext ρ H ρ' H'):∀ {v:V}{d:D},Cv mg ρ H v d->Cv mg ρ' H' v d
 |_,_,.non=>.non
 |_,_,.bl b=>.bl b
 |_,_,.int i=>.int i
 |_,_,.str x=>.str x
 |_,_,.tup n h c=>.tup (e.out h n) (e.keeps h n) (Cvs.mono e c)
 |_,_,.lst n h c=>.lst (e.out h n) (e.keeps h n) (Cvs.mono e c)
 |_,_,.dic n h l c=>.dic (e.out h n) (e.keeps h n) l (Cvs.mono e c)
 |_,_,.obj n m h l c=>.obj (e.out h n) m (e.keeps h n) l (Cvs.mono e c)
 |_,_,.scr n h=>.scr (by obtain⟨o,q⟩:=Rd.some h;exact e.out q n) (by
   rcases h with h | ⟨o,h⟩
   ·exact .inl (e.keeps h n)
   ·exact .inr ⟨o,e.keeps h n⟩)
 |_,_,.ref h=>.ref (e.at h)
 |_,_,.cls h=>.cls h
 |_,_,.ty t=>.ty t
 |_,_,.exn a=>.exn a
theorem Cvs.mono(e:Ext ρ H ρ' H'):∀{vs:List V}{ds:List D},Cvs mg ρ H vs ds->Cvs mg ρ' H' vs ds
 |_,_,.nil=>.nil
 |_,_,.cons h t=>.cons (Cv.mono e h) (Cvs.mono e t)
end
theorem Cvs.len:∀{vs:List V}{ds:List D},Cvs mg ρ H vs ds->vs.length=ds.length
 |_,_,.nil=>rfl
 |_,_,.cons _ t=>by rw[List.length_cons,List.length_cons,Cvs.len t]
theorem Cvs.append:∀{vs us:List V}{ds es:List D},Cvs mg ρ H vs ds->Cvs mg ρ H us es->Cvs mg ρ H (vs++us) (ds++es)
 |_,_,_,_,.nil,h=>h
 |_,_,_,_,.cons a b,h=>.cons a (Cvs.append b h)
theorem Cvs.take:∀{vs:List V}{ds:List D} (n:Nat),Cvs mg ρ H vs ds->Cvs mg ρ H (vs.take n) (ds.take n)
 |_,_,0,_=>by simp only[List.take_zero];exact .nil
 |_,_,n+1,.nil=>by simp only[List.take_nil];exact .nil
 |_,_,n+1,.cons a b=>by simp only[List.take_succ_cons];exact .cons a (Cvs.take n b)
theorem Cvs.drop:∀{vs:List V}{ds:List D} (n:Nat),Cvs mg ρ H vs ds->Cvs mg ρ H (vs.drop n) (ds.drop n)
 |_,_,0,h=>by simp only[List.drop_zero];exact h
 |_,_,n+1,.nil=>by simp only[List.drop_nil];exact .nil
 |_,_,n+1,.cons a b=>by simp only[List.drop_succ_cons];exact Cvs.drop n b
theorem Cvs.get:∀ {vs:List V}{ds:List D}{i:Nat}{d:D},Cvs mg ρ H vs ds->ds[i]?=some d->∃ v,vs[i]?=some v∧Cv mg ρ H v d
 |_,_,i,_,.nil,e=>by simp at e
 |_,_,0,_,.cons h _,e=>by simp at e;subst e;exact⟨_,rfl,h⟩
 |_,_,i+1,_,.cons _ t,e=>by
   obtain⟨v,q,c⟩:=Cvs.get (i:=i) t (by simpa using e)
   exact⟨v,by simpa using q,c⟩
theorem Cvs.set{v:V}{d:D}(h:Cv mg ρ H v d):∀{vs:List V}{ds:List D} (i:Nat),Cvs mg ρ H vs ds->Cvs mg ρ H (vs.set i v) (ds.set i d)
 |_,_,_,.nil=>.nil
 |_,_,0,.cons _ t=>.cons h t
 |_,_,i+1,.cons a t=>.cons a (Cvs.set h i t)
theorem Cvs.ints:∀ns:List Int,Cvs mg ρ H (ns.map V.int) (ns.map D.int)
 |[]=>.nil
 |n::ns=>.cons (.int n) (Cvs.ints ns)
def jZ(mg:Str->Option Value)(ρ:Rh)(H:Hp)(a:Addr):DO->Prop
 |.lst l=>∃xs,H a=some (.lst xs)∧Cvs mg ρ H xs l
 |.dic ks l=>∃xs,H a=some (.dK (ks.zip xs))∧ks.length=xs.length∧Cvs mg ρ H xs l
 |.ins c ns l=>∃C dx xs,mg c=some (.ref C)∧H a=some (.ins C dx (ns.zip xs))∧ns.length=xs.length∧Cvs mg ρ H xs l
theorem jZ.some{a:Addr}{o:DO}(h:jZ mg ρ H a o):∃u,H a=some u:=by
 cases o with
 |lst l=>obtain⟨xs,h,_⟩:=h;exact⟨_,h⟩
 |dic ks l=>obtain⟨xs,h,_⟩:=h;exact⟨_,h⟩
 |ins c ns l=>obtain⟨C,dx,xs,_,h,_⟩:=h;exact⟨_,h⟩
theorem jZ.mono{a:Addr}{o:DO}(e:Ext ρ H ρ' H')(k:H' a=H a)(h:jZ mg ρ H a o):jZ mg ρ' H' a o:=by
 cases o with
 |lst l=>obtain⟨xs,h,c⟩:=h;exact⟨xs,k.trans h,c.mono e⟩
 |dic ks l=>obtain⟨xs,h,q,c⟩:=h;exact⟨xs,k.trans h,q,c.mono e⟩
 |ins c ns l=>obtain⟨C,dx,xs,m,h,q,c⟩:=h;exact⟨C,dx,xs,m,k.trans h,q,c.mono e⟩
structure J(mg:Str->Option Value)(ρ:Rh)(M:Mo)(H:Hp):Prop where
 len:ρ.st.length=M.length
 nd:ρ.st.Nodup
 obj:∀(n:Nat) a o,ρ.st[n]?=some a->M[n]?=some o->jZ mg ρ H a o
 vol:∀a,a∈ρ.vo->a∉ρ.st∧∃xs,H a=some (.lst xs)
theorem J.some{M:Mo}(j:J mg ρ M H){a:Addr}(h:a∈ρ):∃u,H a=some u:=by
 rcases h with h | h
 ·obtain⟨n,hn⟩:=List.mem_iff_getElem?.mp h
  have lt:n<M.length:=by rw[←j.len];exact (List.getElem?_eq_some_iff.mp hn).1
  exact (j.obj n a M[n] hn (List.getElem?_eq_getElem lt)).some
 ·obtain⟨_,xs,e⟩:=j.vol a h
  exact⟨_,e⟩
theorem J.fresh{M:Mo}(j:J mg ρ M H){p:Addr}(h:H p=none):p∉ρ:=fun z=>by
 obtain⟨u,e⟩:=j.some z
 rw[h] at e;cases e
theorem J.inj{M:Mo}(j:J mg ρ M H){n m:Nat}{a:Addr}(h:ρ.st[n]?=Option.some a)(k:ρ.st[m]?=Option.some a):n=m:=by
 obtain⟨h1,e1⟩:=List.getElem?_eq_some_iff.mp h
 obtain⟨h2,e2⟩:=List.getElem?_eq_some_iff.mp k
 have q:∀i k (hi:i<ρ.st.length) (hk:k<ρ.st.length),i<k->ρ.st[i]≠ρ.st[k]:=fun i k hi hk lt=>List.pairwise_iff_getElem.mp j.nd i k hi hk lt
 rcases Nat.lt_trichotomy n m with z | z | z
 ·exact absurd (e1.trans e2.symm) (q n m h1 h2 z)
 ·exact z
 ·exact absurd (e2.trans e1.symm) (q m n h2 h1 z)
theorem Ext.lay{p:Addr}{o:HO}(h:H p=none):Ext ρ H ρ (upd H p o):=⟨⟨[],by simp⟩,rfl,fun a h n=>absurd h n,fun a o e _=>by rw[upd_ne (ne_of_none e h)];exact e⟩
theorem Ext.same(S:Same H H'):Ext ρ H ρ H':=⟨⟨[],by simp⟩,rfl,fun a h n=>absurd h n,fun a o e _=>S _ _ e⟩
theorem J.same{M:Mo}(j:J mg ρ M H)(S:Same H H'):J mg ρ M H':=⟨j.len,j.nd,fun n a o h k=>by
 have c:=j.obj n a o h k
 obtain⟨u,e⟩:=c.some
 exact c.mono (Ext.same S) (by rw[e,S _ _ e]),fun a h=>let ⟨x,xs,e⟩:=j.vol a h;⟨x,xs,S _ _ e⟩⟩
theorem J.lay{M:Mo}(j:J mg ρ M H){p:Addr}(o:HO)(h:H p=none):J mg ρ M (upd H p o):=j.same (same_new h o)
theorem Ext.put{p:Addr}{o:HO}(h:H p=none):Ext ρ H (ρ.put p) (upd H p o):=⟨⟨[p],rfl⟩,rfl,fun a ha n=>by
 rcases List.mem_append.mp ha with z | z
 ·exact absurd z n
 ·rw[List.mem_singleton.mp z];exact h,fun a o e _=>by rw[upd_ne (ne_of_none e h)];exact e⟩
theorem J.put {M:Mo} (j:J mg ρ M H) {p:Addr}{o:HO}{u:DO} (h:H p=none) (c:jZ mg (ρ.put p) (upd H p o) p u):J mg (ρ.put p) (M++[u]) (upd H p o):=by
 have np:p∉ρ.st:=fun z=>j.fresh h (.inl z)
 refine⟨?_,?_,fun n a w h1 h2=>?_,fun a ha=>?_⟩
 ·show (ρ.st++[p]).length=_
  rw[List.length_append,List.length_append,j.len];rfl
 ·show (ρ.st++[p]).Nodup
  rw[List.nodup_append]
  exact⟨j.nd,by simp,fun x hx y hy e=>by rw[List.mem_singleton.mp hy] at e;exact np (e ▸ hx)⟩
 ·have h1:(ρ.st++[p])[n]?=Option.some a:=h1
  by_cases hn:n<ρ.st.length
  ·rw[List.getElem?_append_left hn] at h1
   rw[List.getElem?_append_left (by rw[←j.len];exact hn)] at h2
   have c:=j.obj n a w h1 h2
   exact c.mono (Ext.put h) (upd_ne fun (z:a=p)=>np (z ▸ List.mem_of_getElem? h1))
  ·have hl:n<(ρ.st++[p]).length:=(List.getElem?_eq_some_iff.mp h1).1
   rw[List.length_append] at hl
   have e:n=ρ.st.length:=by have:[p].length=1:=rfl;omega
   subst e
   rw[List.getElem?_append_right (Nat.le_refl _)] at h1
   rw[j.len,List.getElem?_append_right (Nat.le_refl _)] at h2
   simp at h1 h2
   subst h1 h2
   exact c
 ·obtain⟨x,xs,e⟩:=j.vol a ha
  have ne:a≠p:=ne_of_none e h
  refine⟨fun z=>?_,xs,by rw[upd_ne ne];exact e⟩
  rcases List.mem_append.mp z with z | z
  ·exact x z
  ·exact ne (List.mem_singleton.mp z)
theorem Ext.upd{p:Addr}{o:HO}(h:p∈ρ.st):Ext ρ H ρ (L2.upd H p o):=⟨⟨[],by simp⟩,rfl,fun a h n=>absurd h n,fun a u e n=>by rw[upd_ne (fun (z:a=p)=>n (z ▸ h))];exact e⟩
theorem J.upd {M:Mo} (j:J mg ρ M H) {n:Nat}{p:Addr}{o:HO}{u:DO} (h:ρ.st[n]?=Option.some p) (c:jZ mg ρ (L2.upd H p o) p u):J mg ρ (M.set n u) (L2.upd H p o):=by
 refine⟨by rw[List.length_set];exact j.len,j.nd,fun m a w h1 h2=>?_,fun a ha=>?_⟩
 ·by_cases e:m=n
  ·subst e
   rw[h] at h1;cases h1
   have lt:m<M.length:=by rw[←j.len];exact (List.getElem?_eq_some_iff.mp h).1
   rw[List.getElem?_set_self lt] at h2
   cases h2
   exact c
  ·rw[List.getElem?_set_ne (fun z=>e z.symm)] at h2
   have ne:a≠p:=fun z=>by subst z;exact e (j.inj h1 h)
   exact (j.obj m a w h1 h2).mono (Ext.upd (List.mem_of_getElem? h)) (by rw[upd_ne ne])
 ·obtain⟨x,xs,e⟩:=j.vol a ha
  exact⟨x,xs,by rw[upd_ne (fun (z:a=p)=>x (z ▸ List.mem_of_getElem? h))];exact e⟩
theorem gD{p a:Addr}{o:HO}(hp:p∈ρ.vo)(n:a∉ρ):L2.upd H p o a=H a:=upd_ne fun z=>n (by rw[z];exact .inr hp)
mutual
theorem Cv.hold {p:Addr}{o:HO} (hp:p∈ρ.vo):∀ {v:V}{d:D},Cv mg ρ H v d->Cv mg ρ (L2.upd H p o) v d
 |_,_,.non=>.non
 |_,_,.bl b=>.bl b
 |_,_,.int i=>.int i
 |_,_,.str x=>.str x
 |_,_,.tup n h c=>.tup n ((gD hp n).trans h) (Cvs.hold hp c)
 |_,_,.lst n h c=>.lst n ((gD hp n).trans h) (Cvs.hold hp c)
 |_,_,.dic n h l c=>.dic n ((gD hp n).trans h) l (Cvs.hold hp c)
 |_,_,.obj n m h l c=>.obj n m ((gD hp n).trans h) l (Cvs.hold hp c)
 |_,_,.scr n h=>.scr n (by
   rcases h with h | ⟨o,h⟩
   ·exact .inl ((gD hp n).trans h)
   ·exact .inr ⟨o,(gD hp n).trans h⟩)
 |_,_,.ref h=>.ref h
 |_,_,.cls h=>.cls h
 |_,_,.ty t=>.ty t
 |_,_,.exn a=>.exn a
theorem Cvs.hold{p:Addr}{o:HO}(hp:p∈ρ.vo):∀{vs:List V}{ds:List D},Cvs mg ρ H vs ds->Cvs mg ρ (L2.upd H p o) vs ds
 |_,_,.nil=>.nil
 |_,_,.cons h t=>.cons (Cv.hold hp h) (Cvs.hold hp t)
end
mutual
theorem Cv.less{ρ1:Rh}(hs:ρ1.st=ρ.st)(hv:∀a,a∈ρ1.vo->a∈ρ.vo):∀{v:V}{d:D},Cv mg ρ H v d->Cv mg ρ1 H v d
 |_,_,.non=>.non
 |_,_,.bl b=>.bl b
 |_,_,.int i=>.int i
 |_,_,.str x=>.str x
 |_,_,.tup n h c=>.tup (fun z=>n (z.elim (fun y=>.inl (hs ▸ y)) fun y=>.inr (hv _ y))) h (Cvs.less hs hv c)
 |_,_,.lst n h c=>.lst (fun z=>n (z.elim (fun y=>.inl (hs ▸ y)) fun y=>.inr (hv _ y))) h (Cvs.less hs hv c)
 |_,_,.dic n h l c=>.dic (fun z=>n (z.elim (fun y=>.inl (hs ▸ y)) fun y=>.inr (hv _ y))) h l (Cvs.less hs hv c)
 |_,_,.obj n m h l c=>.obj (fun z=>n (z.elim (fun y=>.inl (hs ▸ y)) fun y=>.inr (hv _ y))) m h l (Cvs.less hs hv c)
 |_,_,.scr n h=>.scr (fun z=>n (z.elim (fun y=>.inl (hs ▸ y)) fun y=>.inr (hv _ y))) h
 |_,_,.ref h=>.ref (by rw[hs];exact h)
 |_,_,.cls h=>.cls h
 |_,_,.ty t=>.ty t
 |_,_,.exn a=>.exn a
theorem Cvs.less{ρ1:Rh}(hs:ρ1.st=ρ.st)(hv:∀a,a∈ρ1.vo->a∈ρ.vo):∀{vs:List V}{ds:List D},Cvs mg ρ H vs ds->Cvs mg ρ1 H vs ds
 |_,_,.nil=>.nil
 |_,_,.cons h t=>.cons (Cv.less hs hv h) (Cvs.less hs hv t)
end
mutual
theorem Cv.more{p:Addr}(hp:H p=none):∀{v:V}{d:D},Cv mg ρ H v d->Cv mg (ρ.hold p) H v d
 |_,_,.non=>.non
 |_,_,.bl b=>.bl b
 |_,_,.int i=>.int i
 |_,_,.str x=>.str x
 |_,_,.tup n h c=>.tup (Rh.nhold n (ne_of_none h hp)) h (Cvs.more hp c)
 |_,_,.lst n h c=>.lst (Rh.nhold n (ne_of_none h hp)) h (Cvs.more hp c)
 |_,_,.dic n h l c=>.dic (Rh.nhold n (ne_of_none h hp)) h l (Cvs.more hp c)
 |_,_,.obj n m h l c=>.obj (Rh.nhold n (ne_of_none h hp)) m h l (Cvs.more hp c)
 |_,_,.scr n h=>.scr (Rh.nhold n (by obtain⟨o,q⟩:=Rd.some h;exact ne_of_none q hp)) h
 |_,_,.ref h=>.ref h
 |_,_,.cls h=>.cls h
 |_,_,.ty t=>.ty t
 |_,_,.exn a=>.exn a
theorem Cvs.more{p:Addr}(hp:H p=none):∀{vs:List V}{ds:List D},Cvs mg ρ H vs ds->Cvs mg (ρ.hold p) H vs ds
 |_,_,.nil=>.nil
 |_,_,.cons h t=>.cons (Cv.more hp h) (Cvs.more hp t)
end
theorem jZ.map{ρ1:Rh}{H1:Hp}{a:Addr}{o:DO}(k:H1 a=H a)(f:∀vs ds,Cvs mg ρ H vs ds->Cvs mg ρ1 H1 vs ds)(h:jZ mg ρ H a o):jZ mg ρ1 H1 a o:=by
 cases o with
 |lst l=>obtain⟨xs,h,c⟩:=h;exact⟨xs,k.trans h,f _ _ c⟩
 |dic ks l=>obtain⟨xs,h,q,c⟩:=h;exact⟨xs,k.trans h,q,f _ _ c⟩
 |ins c ns l=>obtain⟨C,dx,xs,m,h,q,c⟩:=h;exact⟨C,dx,xs,m,k.trans h,q,f _ _ c⟩
theorem J.begin {M:Mo} (j:J mg ρ M H) {p:Addr} (hp:H p=none):J mg (ρ.hold p) M (L2.upd H p (.lst [])):=by
 have np:p∉ρ.st:=fun z=>j.fresh hp (.inl z)
 refine⟨j.len,j.nd,fun n a o h1 h2=>?_,fun a ha=>?_⟩
 ·exact (j.obj n a o h1 h2).map (upd_ne fun (z:a=p)=>np (z ▸ List.mem_of_getElem? h1)) fun vs ds c=>(c.more hp).hold (.head _)
 ·rcases List.mem_cons.mp ha with rfl | ha
  ·exact⟨np,[],upd_same⟩
  ·obtain⟨x,xs,e⟩:=j.vol a ha
   exact⟨x,xs,by rw[upd_ne (ne_of_none e hp)];exact e⟩
theorem J.grow {M:Mo} (j:J mg ρ M H) {p:Addr}{ys:List V} (hp:p∈ρ.vo):J mg ρ M (L2.upd H p (.lst ys)):=by
 refine⟨j.len,j.nd,fun n a o h1 h2=>?_,fun a ha=>?_⟩
 ·exact (j.obj n a o h1 h2).map (upd_ne fun (z:a=p)=>(j.vol p hp).1 (z ▸ List.mem_of_getElem? h1)) fun vs ds c=>c.hold hp
 ·by_cases z:a=p
  ·subst z;exact⟨(j.vol a ha).1,ys,upd_same⟩
  ·obtain⟨x,xs,e⟩:=j.vol a ha
   exact⟨x,xs,by rw[upd_ne z];exact e⟩
theorem J.done{M:Mo}{p:Addr}{ρ1:Rh}(j:J mg ρ1 M H)(hv:ρ1.vo=p::ρ.vo):J mg ⟨ρ1.st,ρ.vo⟩ M H:=by
 refine⟨j.len,j.nd,fun n a o h1 h2=>?_,fun a ha=>?_⟩
 ·exact jZ.map (ρ:=ρ1) rfl (fun vs ds c=>Cvs.less (ρ:=ρ1) (ρ1:=⟨ρ1.st,ρ.vo⟩) rfl (fun a ha=>by rw[hv];exact .tail _ ha) c) (j.obj n a o h1 h2)
 ·obtain⟨x,y⟩:=j.vol a (by rw[hv];exact .tail _ ha)
  exact⟨x,y⟩
end
structure Kp(ρ:Rh)(H:Hp)(ρ':Rh)(H':Hp):Prop where
 pre:∃τ,ρ'.st=ρ.st++τ
 keep:∀a o,H a=some o->a∉ρ->a∉ρ'∧H' a=some o
theorem Ext.kp{ρ ρ':Rh}{H H':Hp}(e:Ext ρ H ρ' H'):Kp ρ H ρ' H':=⟨e.pre,fun a o h n=>⟨e.out h n,e.keeps h n⟩⟩
theorem Kp.trans{ρ ρ1 ρ2:Rh}{H H1 H2:Hp}(a:Kp ρ H ρ1 H1)(b:Kp ρ1 H1 ρ2 H2):Kp ρ H ρ2 H2:=by
 refine⟨?_,fun c o h n=>let ⟨x,y⟩:=a.keep c o h n;b.keep c o y x⟩
 obtain⟨τ,h1⟩:=a.pre
 obtain⟨υ,h2⟩:=b.pre
 exact⟨τ++υ,by rw[h2,h1,List.append_assoc]⟩
theorem Kp.at{ρ ρ':Rh}{H H':Hp}(e:Kp ρ H ρ' H'){n:Nat}{a:Addr}(h:ρ.st[n]?=some a):ρ'.st[n]?=some a:=by
 obtain⟨τ,h1⟩:=e.pre
 rw[h1,List.getElem?_append_left (List.getElem?_eq_some_iff.mp h).1];exact h
section
variable{mg:Str->Option Value}{ρ ρ':Rh}{H H':Hp}
mutual
theorem Cv.kp (e:Kp ρ H ρ' H'):∀ {v:V}{d:D},Cv mg ρ H v d->Cv mg ρ' H' v d
 |_,_,.non=>.non
 |_,_,.bl b=>.bl b
 |_,_,.int i=>.int i
 |_,_,.str x=>.str x
 |_,_,.tup n h c=>.tup (e.keep _ _ h n).1 (e.keep _ _ h n).2 (Cvs.kp e c)
 |_,_,.lst n h c=>.lst (e.keep _ _ h n).1 (e.keep _ _ h n).2 (Cvs.kp e c)
 |_,_,.dic n h l c=>.dic (e.keep _ _ h n).1 (e.keep _ _ h n).2 l (Cvs.kp e c)
 |_,_,.obj n m h l c=>.obj (e.keep _ _ h n).1 m (e.keep _ _ h n).2 l (Cvs.kp e c)
 |_,_,.scr n h=>by
   rcases h with h | ⟨o,h⟩
   ·exact .scr (e.keep _ _ h n).1 (.inl (e.keep _ _ h n).2)
   ·exact .scr (e.keep _ _ h n).1 (.inr ⟨o,(e.keep _ _ h n).2⟩)
 |_,_,.ref h=>.ref (e.at h)
 |_,_,.cls h=>.cls h
 |_,_,.ty t=>.ty t
 |_,_,.exn a=>.exn a
theorem Cvs.kp(e:Kp ρ H ρ' H'):∀{vs:List V}{ds:List D},Cvs mg ρ H vs ds->Cvs mg ρ' H' vs ds
 |_,_,.nil=>.nil
 |_,_,.cons h t=>.cons (Cv.kp e h) (Cvs.kp e t)
end
end
def uY(mg:Str->Option Value)(ρ:Rh)(H:Hp){α β:Type}(rel:Rh->Hp->β->α->Prop)(Q:β->Hp->Prop)(E:XK):R α×Mo->Prop
 |(.ok a,M')=>∀ρ' H' b,Ext ρ H ρ' H'->J mg ρ' M' H'->rel ρ' H' b a->Q b H'
 |(.exc c,M')=>∀ρ' H' C,Ext ρ H ρ' H'->J mg ρ' M' H'->mg c=some (.ref C)->E (.ref C) none H'
def Go(mg:Str->Option Value)(E:XK){α β:Type}(rel:Rh->Hp->β->α->Prop)(Q:β->Hp->Prop)(ρ:Rh)(H:Hp)(m:DM α)(M:Mo):Prop:=∃r,m M=some r∧uY mg ρ H rel Q E r
section
variable{mg:Str->Option Value}{ρ ρ':Rh}{H H':Hp}{E:XK}{α β γ δ':Type}{rel:Rh->Hp->β->α->Prop}{rel':Rh->Hp->δ'->γ->Prop}{Q:δ'->Hp->Prop}{Q':β->Hp->Prop}
theorem uY.mono{r:R α×Mo}(e:Ext ρ H ρ' H')(h:uY mg ρ H rel Q' E r):uY mg ρ' H' rel Q' E r:=by
 obtain⟨r,M'⟩:=r
 cases r with
 |ok a=>exact fun ρ2 H2 b e2 j c=>h ρ2 H2 b (e.trans e2) j c
 |exc c=>exact fun ρ2 H2 C e2 j m=>h ρ2 H2 C (e.trans e2) j m
theorem Go.bind{m:DM α}{k:α->DM γ}{M:Mo}(g:Go mg E rel' Q ρ H (m>>=k) M)
  (f:∀ρ1 H1 M1 b a,Ext ρ H ρ1 H1->J mg ρ1 M1 H1->rel ρ1 H1 b a->Go mg E rel' Q ρ1 H1 (k a) M1->Q' b H1):Go mg E rel Q' ρ H m M:=by
 obtain⟨r,e,p⟩:=g
 have e:DM.bind m k M=some r:=e
 unfold DM.bind at e
 split at e
 ·cases e
 ·rename_i c M' em
  cases e
  exact⟨_,em,p⟩
 ·rename_i a M' em
  exact⟨_,em,fun ρ1 H1 b x j c=>f ρ1 H1 M' b a x j c ⟨r,e,p.mono x⟩⟩
theorem Go.rd{f:Mo->Option α}{M:Mo}(g:Go mg E rel Q' ρ H (rd f) M):∃a,f M=some a∧∀ρ' H' b,Ext ρ H ρ' H'->J mg ρ' M H'->rel ρ' H' b a->Q' b H':=by
 obtain⟨r,e,p⟩:=g
 obtain⟨a,e1,rfl⟩:=Option.map_eq_some_iff.mp e
 exact⟨a,e1,p⟩
theorem Go.opt{o:Option α}{M:Mo}(g:Go mg E rel Q' ρ H (opt o) M):∃a,o=some a∧∀ρ' H' b,Ext ρ H ρ' H'->J mg ρ' M H'->rel ρ' H' b a->Q' b H':=by
 obtain⟨r,e,p⟩:=g
 obtain⟨a,e1,rfl⟩:=Option.map_eq_some_iff.mp e
 exact⟨a,e1,p⟩
theorem Go.pure{a:α}{M:Mo}(g:Go mg E rel Q' ρ H (pure a) M):∀ρ' H' b,Ext ρ H ρ' H'->J mg ρ' M H'->rel ρ' H' b a->Q' b H':=by
 obtain⟨r,e,p⟩:=g
 have e:some (R.ok a,M)=some r:=e
 cases e
 exact p
end
structure Ev(mg:Str->Option Value)(ρ:Rh)(H:Hp)(σ:St)(δ:aa):Prop where
 len:σ.length=δ.length
 val:∀(i:Nat) d,δ[i]?=some (some d)->∃v,σ[i]?=some (some v)∧Cv mg ρ H v d
theorem Ev.mono{mg:Str->Option Value}{ρ ρ':Rh}{H H':Hp}{σ:St}{δ:aa}(e:Ext ρ H ρ' H')(h:Ev mg ρ H σ δ):Ev mg ρ' H' σ δ:=
 ⟨h.len,fun i d q=>let ⟨v,a,b⟩:=h.val i d q;⟨v,a,b.mono e⟩⟩
theorem Ev.kp{mg:Str->Option Value}{ρ ρ':Rh}{H H':Hp}{σ:St}{δ:aa}(e:Kp ρ H ρ' H')(h:Ev mg ρ H σ δ):Ev mg ρ' H' σ δ:=
 ⟨h.len,fun i d q=>let ⟨v,a,b⟩:=h.val i d q;⟨v,a,b.kp e⟩⟩
theorem Ev.set{mg:Str->Option Value}{ρ:Rh}{H:Hp}{σ:St}{δ:aa}{i:Nat}{v:V}{d:D}(h:Ev mg ρ H σ δ)(c:Cv mg ρ H v d):Ev mg ρ H (σ.set i (some v)) (δ.set i (some d)):=by
 refine⟨by rw[List.length_set,List.length_set,h.len],fun j x q=>?_⟩
 by_cases e:j=i
 ·subst e
  have hj:j<(δ.set j (some d)).length:=(List.getElem?_eq_some_iff.mp q).1
  rw[List.length_set] at hj
  rw[List.getElem?_set_self hj] at q
  cases q
  exact⟨v,List.getElem?_set_self (by rw[h.len];exact hj),c⟩
 ·rw[List.getElem?_set_ne (fun z=>e z.symm)] at q ⊢
  exact h.val j x q
def tD(mg:Str->Option Value)(E:XK){α β:Type}(rel:Rh->Hp->β->α->Prop)(f:aa->DM α):St->Hp->(β->Hp->Prop)->Prop:=fun σ H Q=>
 ∃ρ δ M,Ev mg ρ H σ δ∧J mg ρ M H∧Go mg E rel Q ρ H (f δ) M
def Bv(_:Rh)(_:Hp)(b a:Bool):Prop:=b=a
structure DE(X:Cx)(E:XK)(e:Expr)(f:aa->DM D):Prop where
 h:PE X e (tD X.mg E (Cv X.mg) f)
structure DA(X:Cx)(E:XK)(es:List Expr)(f:aa->DM (List D)):Prop where
 h:QA X es (tD X.mg E (Cvs X.mg) f)
structure DT(X:Cx)(E:XK)(e:Expr)(f:aa->DM Bool):Prop where
 h:PT X e (tD X.mg E Bv f)
theorem PE.mono{X:Cx}{e:Expr}{t t':TE}(h:PE X e t)(f:∀σ H Q,t' σ H Q->t σ H Q):PE X e t':=fun pins s σ H Q I q=>h pins s σ H Q I (f σ H Q q)
theorem PT.mono{X:Cx}{e:Expr}{t t':TT}(h:PT X e t)(f:∀σ H Q,t' σ H Q->t σ H Q):PT X e t':=fun pins s σ H Q I q=>h pins s σ H Q I (f σ H Q q)
theorem PA.mono{X:Cx}{e:List Expr}{t t':TA}(h:PA X e t)(f:∀σ H Q,t' σ H Q->t σ H Q):PA X e t':=fun p pins s σ H Q I q=>h p pins s σ H Q I (f σ H Q q)
mutual
def toPy:D->Option PyData
 |.non=>some .none
 |.bl b=>some (.bool b)
 |.int i=>some (.int i)
 |.str x=>some (.str x)
 |.tup l=>(dG l).map .tuple
 |.lst l=>(dG l).map .list
 |_=>none
def dG:List D->Option (List PyData)
 |[]=>some []
 |d::l=>match toPy d,dG l with
   |some p,some ps=>some (p::ps)
   |_,_=>none
end
mutual
def bD:D->Option PyData
 |.non=>some .none
 |.bl b=>some (.bool b)
 |.int i=>some (.int i)
 |.str x=>some (.str x)
 |.tup l=>(dC l).map .tuple
 |.lst l=>(dC l).map .list
 |.dic [] []=>some (.dict [])
 |.dic [.inl i] [.int j]=>some (.dict [(.int i,.int j)])
 |_=>none
def dC:List D->Option (List PyData)
 |[]=>some []
 |d::l=>match bD d,dC l with
   |some p,some ps=>some (p::ps)
   |_,_=>none
end
section
variable{mg:Str->Option Value}{ρ:Rh}{H:Hp}
mutual
theorem Cv.repF:∀ {v:V}{d:D}{p:PyData},Cv mg ρ H v d->toPy d=some p->RepF H true v p
 |_,_,_,.non,e=>by simp only[toPy,Option.some.injEq] at e;subst e;exact .non
 |_,_,_,.bl b,e=>by simp only[toPy,Option.some.injEq] at e;subst e;exact .bl b
 |_,_,_,.int i,e=>by simp only[toPy,Option.some.injEq] at e;subst e;exact .int i
 |_,_,_,.str x,e=>by simp only[toPy,Option.some.injEq] at e;subst e;exact .str x
 |_,_,_,.tup _ h c,e=>by
   simp only[toPy] at e
   obtain⟨ps,e1,rfl⟩:=Option.map_eq_some_iff.mp e
   exact .tup h (Cvs.repF c e1)
 |_,_,_,.lst _ h c,e=>by
   simp only[toPy] at e
   obtain⟨ps,e1,rfl⟩:=Option.map_eq_some_iff.mp e
   exact .lst h (Cvs.repF c e1)
 |_,_,_,.dic ..,e=>by simp[toPy] at e
 |_,_,_,.obj ..,e=>by simp[toPy] at e
 |_,_,_,.scr ..,e=>by simp[toPy] at e
 |_,_,_,.ref ..,e=>by simp[toPy] at e
 |_,_,_,.cls ..,e=>by simp[toPy] at e
 |_,_,_,.ty ..,e=>by simp[toPy] at e
 |_,_,_,.exn ..,e=>by simp[toPy] at e
theorem Cvs.repF:∀ {vs:List V}{ds:List D}{ps:List PyData},Cvs mg ρ H vs ds->dG ds=some ps->RepsF H true vs ps
 |_,_,_,.nil,e=>by simp only[dG,Option.some.injEq] at e;subst e;exact .nil
 | _,_,_,.cons (d:=d) (ds:=ds) h t,e=>by
   simp only[dG] at e
   split at e
   ·rename_i p ps h1 h2
    cases e
    exact .cons (Cv.repF h h1) (Cvs.repF t h2)
   ·cases e
end
mutual
theorem Cv.repD:∀ {v:V}{d:D}{p:PyData},Cv mg ρ H v d->bD d=some p->RepF H false v p
 |_,_,_,.non,e=>by simp only[bD,Option.some.injEq] at e;subst e;exact .non
 |_,_,_,.bl b,e=>by simp only[bD,Option.some.injEq] at e;subst e;exact .bl b
 |_,_,_,.int i,e=>by simp only[bD,Option.some.injEq] at e;subst e;exact .int i
 |_,_,_,.str x,e=>by simp only[bD,Option.some.injEq] at e;subst e;exact .str x
 |_,_,_,.tup _ h c,e=>by
   simp only[bD] at e
   obtain⟨ps,e1,rfl⟩:=Option.map_eq_some_iff.mp e
   exact .tup h (Cvs.repD c e1)
 |_,_,_,.lst _ h c,e=>by
   simp only[bD] at e
   obtain⟨ps,e1,rfl⟩:=Option.map_eq_some_iff.mp e
   exact .lst h (Cvs.repD c e1)
 | _,_,_,.dic (ks:=ks) (ds:=ds) _ h l c,e=>by
   unfold bD at e
   split at e<;>first | cases e;done | skip
   ·cases ‹D.dic ks ds=_›
   ·cases ‹D.dic ks ds=_›
   ·cases ‹D.dic ks ds=_›
   ·cases ‹D.dic ks ds=_›
   ·cases ‹D.dic ks ds=_›
   ·cases ‹D.dic ks ds=_›
   ·rename_i q
    cases q
    cases c
    cases e
    exact .d0 h
   ·rename_i i j q
    cases q
    cases c with
    |cons c1 c2=>
      cases c2
      cases c1
      cases e
      exact .d1 h
 |_,_,_,.obj ..,e=>by simp[bD] at e
 |_,_,_,.scr ..,e=>by simp[bD] at e
 |_,_,_,.ref ..,e=>by simp[bD] at e
 |_,_,_,.cls ..,e=>by simp[bD] at e
 |_,_,_,.ty ..,e=>by simp[bD] at e
 |_,_,_,.exn ..,e=>by simp[bD] at e
theorem Cvs.repD:∀ {vs:List V}{ds:List D}{ps:List PyData},Cvs mg ρ H vs ds->dC ds=some ps->RepsF H false vs ps
 |_,_,_,.nil,e=>by simp only[dC,Option.some.injEq] at e;subst e;exact .nil
 | _,_,_,.cons (d:=d) (ds:=ds) h t,e=>by
   simp only[dC] at e
   split at e
   ·rename_i p ps h1 h2
    cases e
    exact .cons (Cv.repD h h1) (Cvs.repD t h2)
   ·cases e
end
end
section
variable{X:Cx}{E:XK}{a b c:Expr}{fa fb fc:aa->DM D}{pos:Pos}
def gO(i:Nat)(δ:aa):DM D:=opt ((δ[i]?).join)
theorem ao(i:Nat){x:Str}(hN:X.N[i]?=some x:=by rfl)(hv:Vis X.env.scope x:=by first | exact Or.inl rfl | exact Or.inr (Or.inl rfl) | exact Or.inr (Or.inr rfl))(hd:(x==("__debug__":Str))=false:=by decide)
  (hcd:(x==("__classdict__":Str))=false:=by decide):DE X E (.Name x pos) (gO i):=⟨PE.mono (pe_var (i:=i) hN hv hd hcd) fun σ H Q h=>by
 obtain⟨ρ,δ,M,ev,j,g⟩:=h
 obtain⟨d,e,q⟩:=g.opt
 have e':δ[i]?=some (some d):=by
  cases z:δ[i]? with
  |none=>rw[z] at e;cases e
  |some o=>rw[z] at e;exact congrArg some e
 obtain⟨v,h1,h2⟩:=ev.val i d e'
 exact⟨v,h1,q ρ H v .refl j h2⟩⟩
theorem dW{e:Expr}{v:V}{d:D}(h:PE X e (tC v))(hc:∀ρ H,Cv X.mg ρ H v d):DE X E e (fun _=>pure d):=⟨PE.mono h fun σ H Q h=>by
 obtain⟨ρ,δ,M,ev,j,g⟩:=h
 exact g.pure ρ H v .refl j (hc _ _)⟩
theorem aq{i j}:DE X E (.Constant (.int i) j pos) (fun _=>pure (.int i)):=dW pe_int fun _ _=>.int i
theorem cC{i j}:DE X E (.Constant (.bool i) j pos) (fun _=>pure (.bl i)):=dW pe_bl fun _ _=>.bl i
theorem rW{j}:DE X E (.Constant .none j pos) (fun _=>pure .non):=dW pe_non fun _ _=>.non
theorem cQ{x j}:DE X E (.Constant (.str x) j pos) (fun _=>pure (.str x)):=dW pe_str fun _ _=>.str x
theorem Ac{x:Str}{i:Int}{t:Tok}(h:X.mg x=some (.int i t))(hg:Gl X x:=by rfl)(hd:(x==("__debug__":Str))=false:=by decide):DE X E (.Name x pos) (fun _=>pure (.int i)):=dW (Gb h hg hd) fun _ _=>.int i
theorem oW{x:Str}{C:Addr}(h:X.mg x=some (.ref C))(hg:Gl X x:=by rfl)(hd:(x==("__debug__":Str))=false:=by decide):DE X E (.Name x pos) (fun _=>pure (.cls x)):=dW (Ea h hg hd) fun _ _=>.cls h
theorem fB{x:Str}{T:String}(hm:X.mg x=none)(hg:Gl X x:=by rfl)(hv:bootBuiltins x=some (.type T):=by decide +kernel)(hn:x≠"__name__":=by decide)(hdb:(x==("__debug__":Str))=false:=by decide):DE X E (.Name x pos) (fun _=>pure (.ty T)):=
 dW (Gf hm hg hv hn hdb) fun _ _=>.ty T
def rD(mg:Str->Option Value)(E:XK)(g:D->D->DM D):R2:=fun x y H Q=>∃ρ M dx dy,J mg ρ M H∧Cv mg ρ H x dx∧Cv mg ρ H y dy∧Go mg E (Cv mg) Q ρ H (g dx dy) M
def bM(X:Cx)(E:XK)(f:Value->Value->Sem Value)(g:D->D->DM D):Prop:=OpR X f (rD X.mg E g)
theorem ux{g:D->D->DM D}{r:R2}(hr:∀x y H Q,rD X.mg E g x y H Q->r x y H Q){σ:L2.St}{H:Hp}{Q:VK}(h:tD X.mg E (Cv X.mg) (fun δ=>fa δ>>=fun x=>fb δ>>=fun y=>g x y) σ H Q) :
  tOp r (tD X.mg E (Cv X.mg) fa) (tD X.mg E (Cv X.mg) fb) σ H Q:=by
 obtain⟨ρ,δ,M,ev,j,g1⟩:=h
 exact⟨ρ,δ,M,ev,j,g1.bind fun ρ1 H1 M1 x dx e1 j1 c1 g2=>⟨ρ1,δ,M1,ev.mono e1,j1,g2.bind fun ρ2 H2 M2 y dy e2 j2 c2 g3=>hr _ _ _ _ ⟨ρ2,M2,dx,dy,j2,c1.mono e2,c2,g3⟩⟩⟩
theorem aD{op:Operator}{g:D->D->DM D}(ho:bM X E (binaryOp op) g)(ha:DE X E a fa)(hb:DE X E b fb):DE X E (.BinOp a op b pos) (fun δ=>fa δ>>=fun x=>fb δ>>=fun y=>g x y):=
 ⟨PE.mono (pe_op ho ha.h hb.h) fun σ H Q h=>ux (fun _ _ _ _ z=>z) h⟩
theorem bN{op:CmpOp}{g:D->D->DM D}(ho:bM X E (compareOp op) g)(ha:DE X E a fa)(hb:DE X E b fb)(hm:behindInMarks op b=false:=by first | exact nomark _ | rfl):DE X E (.Compare a [op] [b] pos) (fun δ=>fa δ>>=fun x=>fb δ>>=fun y=>g x y):=
 ⟨PE.mono (pe_cmpR ho ha.h hb.h hm) fun σ H Q h=>ux (fun _ _ _ _ z=>z) h⟩
def dm:D->DM Bool
 |.bl b=>pure b
 |_=>stuck
theorem Go.dm{mg:Str->Option Value}{ρ:Rh}{H:Hp}{d:D}{M:Mo}{Q:Bool->Hp->Prop}(g:Go mg E Bv Q ρ H (dm d) M):∃k,d=.bl k∧∀ρ' H',Ext ρ H ρ' H'->J mg ρ' M H'->Q k H':=by
 cases d with
 |bl k=>exact⟨k,rfl,fun ρ' H' e j=>(show Go mg E Bv Q ρ H (Pure.pure k) M from g).pure ρ' H' k e j rfl⟩
 |_=>obtain⟨r,e,_⟩:=g;cases e
theorem dt_of{e:Expr}{f:aa->DM D}{t:TE}(h:PT X e (tTest t))(ht:∀σ H Q,tD X.mg E (Cv X.mg) f σ H Q->t σ H Q):DT X E e (fun δ=>f δ>>=dm):=⟨PT.mono h fun σ H Q h=>by
 obtain⟨ρ,δ,M,ev,j,g1⟩:=h
 refine ht _ _ _ ⟨ρ,δ,M,ev,j,g1.bind fun ρ1 H1 M1 x dx e1 j1 c1 g2=>?_⟩
 obtain⟨k,rfl,q⟩:=Go.dm g2
 cases c1
 exact⟨k,rfl,q ρ1 H1 .refl j1⟩⟩
theorem bj{op:CmpOp}{g:D->D->DM D}(ho:bM X E (compareOp op) g)(ha:DE X E a fa)(hb:DE X E b fb)(hm:behindInMarks op b=false:=by first | exact nomark _ | rfl):DT X E (.Compare a [op] [b] pos) (fun δ=>(fa δ>>=fun x=>fb δ>>=fun y=>g x y)>>=dm):=
 dt_of (pt_cmpR ho ha.h hb.h hm) fun σ H Q h=>ux (fun _ _ _ _ z=>z) h
theorem HS {g g':D->D->DM D}{σ:L2.St}{H:Hp}{Q:VK} (h:tD X.mg E (Cv X.mg) (fun δ=>fa δ >>= fun x=>fb δ >>= fun y=>g x y >>= fun z=>dm z >>= fun k=>if k then fc δ >>= fun w=>g' y w else pure (.bl false)) σ H Q) :
  tChain (rD X.mg E g) (rD X.mg E g') (tD X.mg E (Cv X.mg) fa) (tD X.mg E (Cv X.mg) fb) (tD X.mg E (Cv X.mg) fc) σ H Q:=by
 obtain⟨ρ,δ,M,ev,j,g1⟩:=h
 refine⟨ρ,δ,M,ev,j,g1.bind fun ρ1 H1 M1 x dx e1 j1 c1 g2=>⟨ρ1,δ,M1,ev.mono e1,j1,g2.bind fun ρ2 H2 M2 y dy e2 j2 c2 g3=>⟨ρ2,M2,dx,dy,j2,c1.mono e2,c2,g3.bind fun ρ3 H3 M3 z dz e3 j3 c3 g4=>?_⟩⟩⟩
 have g5:=g4.bind (rel:=Bv) (Q':=fun k H4=>dz=.bl k∧∃ρ4 M4,Ext ρ3 H3 ρ4 H4∧J X.mg ρ4 M4 H4∧Go X.mg E (Cv X.mg) Q ρ4 H4 (if k then fc δ>>=fun w=>g' dy w else pure (.bl false)) M4)
 have key:∃k,dz=.bl k∧Go X.mg E (Cv X.mg) Q ρ3 H3 (if k then fc δ>>=fun w=>g' dy w else pure (.bl false)) M3:=by
  cases dz with
  |bl k=>exact⟨k,rfl,g4⟩
  |_=>obtain⟨r,e,_⟩:=g4;cases e
 obtain⟨k,rfl,g6⟩:=key
 cases c3
 refine⟨k,rfl,?_⟩
 cases k with
 |false=>exact iteF (g6.pure ρ3 H3 _ .refl j3 (.bl false))
 |true=>
   have g6:Go X.mg E (Cv X.mg) Q ρ3 H3 (fc δ>>=fun w=>g' dy w) M3:=g6
   exact iteT ⟨ρ3,δ,M3,((ev.mono e1).mono e2).mono e3,j3,g6.bind fun ρ4 H4 M4 w dw e4 j4 c4 g7=>⟨ρ4,M4,dy,dw,j4,(c2.mono e3).mono e4,c4,g7⟩⟩
theorem rZ{op op':CmpOp}{g g':D->D->DM D}(ho:bM X E (compareOp op) g)(ho':bM X E (compareOp op') g')(ha:DE X E a fa)(hb:DE X E b fb)(hc:DE X E c fc)(hm:lastMarks [op,op'] [b,c]=false:=by with_unfolding_all rfl) :
  DT X E (.Compare a [op,op'] [b,c] pos) (fun δ=>(fa δ>>=fun x=>fb δ>>=fun y=>g x y>>=fun z=>dm z>>=fun k=>if k then fc δ>>=fun w=>g' y w else pure (.bl false))>>=dm):=
 dt_of (pt_chain ho ho' ha.h hb.h hc.h hm) fun σ H Q h=>HS h
def lW:D->Mo->Option Bool
 |.non,_=>some false
 |.bl b,_=>some b
 |.int i,_=>some (i != 0)
 |.str y,_=>if y.length≤sizeLine then some ((y.length:Int) != 0) else none
 |.tup l,_=>some (!l.isEmpty)
 |.lst l,_=>some (!l.isEmpty)
 |.scr l,_=>some (!l.isEmpty)
 |.dic ks _,_=>some (!ks.isEmpty)
 |.ref n,M=>match M[n]? with
   |some (.lst l)=>some (!l.isEmpty)
   |some (.dic ks _)=>some (!ks.isEmpty)
   |_=>none
 |_,_=>none
theorem qU {α β:Type}{ks:List α}{xs:List β} (h:ks.length=xs.length):(ks.zip xs).isEmpty=ks.isEmpty:=by
 cases ks with
 |nil=>simp
 |cons k ks=>cases xs with
   |nil=>simp at h
   |cons x xs=>rfl
theorem Cvs.empty{mg:Str->Option Value}{ρ:Rh}{H:Hp}{vs:List V}{ds:List D}(c:Cvs mg ρ H vs ds):vs.isEmpty=ds.isEmpty:=by cases c<;>rfl
theorem Fg {K:PySem.W.Frag}{mg:Str->Option Value}{ρ:Rh}{H:Hp}{M:Mo}{x:V}{d:D}{k:Bool} (j:J mg ρ M H) (h:Cv mg ρ H x d) (e:lW d M=some k):TruV K x H k:=by
 cases h with
 |non=>cases e;rfl
 |bl b=>cases e;rfl
 |int i=>cases e;rfl
 |str y=>
   unfold lW at e
   dsimp only at e
   split at e
   ·cases e;exact⟨‹_›,rfl⟩
   ·cases e
 |tup n h c=>cases e;exact .inr (.inl ⟨_,SqT.of h,by rw[c.empty]⟩)
 |lst n h c=>cases e;exact .inl ⟨_,SqL.of h,by rw[c.empty]⟩
 |scr n h=>cases e;exact .inl ⟨_,.inl h,by simp⟩
 |dic n h l c=>cases e;exact .inr (.inr ⟨_,h,by rw[qU l]⟩)
 | ref q=>
   rename_i n a
   unfold lW at e
   dsimp only at e
   split at e
   ·rename_i l hl
    cases e
    obtain⟨xs,h,c⟩:=j.obj n a _ q hl
    exact .inl ⟨_,SqL.of h,by rw[c.empty]⟩
   ·rename_i ks l hl
    cases e
    obtain⟨xs,h,z,c⟩:=j.obj n a _ q hl
    exact .inr (.inr ⟨_,h,by rw[qU z]⟩)
   ·cases e
 |obj=>cases e
 |cls=>cases e
 |ty=>cases e
 |exn=>cases e
theorem bO(ha:DE X E a fa)(he:∀whole,isTrue a X.env whole=(do let v ←whole;standAt a.pos;holding [v] (truthy v))):DT X E a (fun δ=>fa δ>>=fun x=>rd (lW x)):=⟨PT.mono (pt_truth ha.h he) fun σ H Q h=>by
 obtain⟨ρ,δ,M,ev,j,g1⟩:=h
 refine⟨ρ,δ,M,ev,j,g1.bind fun ρ1 H1 M1 x dx e1 j1 c1 g2=>?_⟩
 obtain⟨k,e,q⟩:=g2.rd
 exact⟨k,Fg j1 c1 e,q ρ1 H1 k .refl j1 rfl⟩⟩
variable{ta tb:aa->DM Bool}
theorem cD(ha:DT X E a ta):DT X E (.UnaryOp .Not a pos) (fun δ=>ta δ>>=fun k=>pure (!k)):=⟨PT.mono (pt_not ha.h) fun σ H Q h=>by
 obtain⟨ρ,δ,M,ev,j,g1⟩:=h
 refine⟨ρ,δ,M,ev,j,g1.bind fun ρ1 H1 M1 x dx e1 j1 c1 g2=>?_⟩
 have c1:x=dx:=c1
 subst c1
 exact g2.pure ρ1 H1 _ .refl j1 rfl⟩
structure DW(X:Cx)(E:XK)(e:Expr)(f:aa->DM Bool):Prop where
 h:PW X e (tD X.mg E Bv f)
theorem PW.mono{e:Expr}{t t':TT}(h:PW X e t)(f:∀σ H Q,t' σ H Q->t σ H Q):PW X e t':=fun w pins s σ H Q I q=>h w pins s σ H Q I (f σ H Q q)
theorem DW.dt{e:Expr}(h:DW X E e ta):DT X E e ta:=⟨PW.pt h.h⟩
theorem ut(ha:DT X E a ta):DW X E (.BoolOp .And [a] pos) ta:=⟨pw_and1 ha.h⟩
theorem fQ(ha:DT X E a ta):DW X E (.BoolOp .Or [a] pos) ta:=⟨pw_or1 ha.h⟩
variable{rest:List Expr}
theorem wX(ha:DT X E a ta)(hb:DW X E (.BoolOp .And (b::rest) pos) tb):DW X E (.BoolOp .And (a::b::rest) pos) (fun δ=>ta δ>>=fun k=>if k then tb δ else pure false):=⟨PW.mono (pw_and ha.h hb.h) fun σ H Q h=>by
 obtain⟨ρ,δ,M,ev,j,g1⟩:=h
 refine⟨ρ,δ,M,ev,j,g1.bind fun ρ1 H1 M1 x dx e1 j1 c1 g2=>?_⟩
 have c1:x=dx:=c1
 subst c1
 cases x with
 |true=>exact iteT ⟨ρ1,δ,M1,ev.mono e1,j1,g2⟩
 |false=>exact iteF (Go.pure (a:=false) g2 ρ1 H1 _ .refl j1 rfl)⟩
theorem fD(ha:DT X E a ta)(hb:DW X E (.BoolOp .Or (b::rest) pos) tb):DW X E (.BoolOp .Or (a::b::rest) pos) (fun δ=>ta δ>>=fun k=>if k then pure true else tb δ):=⟨PW.mono (pw_or ha.h hb.h) fun σ H Q h=>by
 obtain⟨ρ,δ,M,ev,j,g1⟩:=h
 refine⟨ρ,δ,M,ev,j,g1.bind fun ρ1 H1 M1 x dx e1 j1 c1 g2=>?_⟩
 have c1:x=dx:=c1
 subst c1
 cases x with
 |false=>exact iteF ⟨ρ1,δ,M1,ev.mono e1,j1,g2⟩
 |true=>exact iteT (Go.pure (a:=true) g2 ρ1 H1 _ .refl j1 rfl)⟩
theorem dM{op:BoolOp}(ha:DE X E a fa):DE X E (.BoolOp op [a] pos) fa:=⟨pe_one ha.h⟩
theorem Go.isB{mg:Str->Option Value}{ρ:Rh}{H:Hp}{α β:Type}{rel:Rh->Hp->β->α->Prop}{Q:β->Hp->Prop}{d:D}{M:Mo}{f:Bool->DM α}(g:Go mg E rel Q ρ H (L3.dm d>>=f) M):∃k,d=.bl k∧Go mg E rel Q ρ H (f k) M:=by
 cases d with
 |bl k=>exact⟨k,rfl,g⟩
 |_=>obtain⟨r,e,_⟩:=g;cases e
theorem dB(ha:DE X E a fa)(hb:DE X E (.BoolOp .And (b::rest) pos) fb):DE X E (.BoolOp .And (a::b::rest) pos) (fun δ=>fa δ>>=fun x=>dm x>>=fun k=>if k then fb δ else pure (.bl false)):=⟨PE.mono (pe_and ha.h hb.h) fun σ H Q h=>by
 obtain⟨ρ,δ,M,ev,j,g1⟩:=h
 refine⟨ρ,δ,M,ev,j,g1.bind fun ρ1 H1 M1 x dx e1 j1 c1 g2=>?_⟩
 obtain⟨k,rfl,g3⟩:=Go.isB g2
 cases c1
 refine⟨k,rfl,?_⟩
 cases k with
 |true=>exact iteT ⟨ρ1,δ,M1,ev.mono e1,j1,g3⟩
 |false=>exact iteF (Go.pure (a:=D.bl false) g3 ρ1 H1 _ .refl j1 (.bl false))⟩
theorem oX(ha:DE X E a fa):DE X E (.UnaryOp .Not a pos) (fun δ=>fa δ>>=fun x=>dm x>>=fun k=>pure (.bl (!k))):=⟨PE.mono (pe_not ha.h) fun σ H Q h=>by
 obtain⟨ρ,δ,M,ev,j,g1⟩:=h
 refine⟨ρ,δ,M,ev,j,g1.bind fun ρ1 H1 M1 x dx e1 j1 c1 g2=>?_⟩
 obtain⟨k,rfl,g3⟩:=Go.isB g2
 cases c1
 exact⟨k,rfl,g3.pure ρ1 H1 _ .refl j1 (.bl _)⟩⟩
theorem Fx(hc:DT X E c ta)(ha:DE X E a fa)(hb:DE X E b fb):DE X E (.IfExp c a b pos) (fun δ=>ta δ>>=fun k=>if k then fa δ else fb δ):=⟨PE.mono (pe_ifExp hc.h ha.h hb.h) fun σ H Q h=>by
 obtain⟨ρ,δ,M,ev,j,g1⟩:=h
 refine⟨ρ,δ,M,ev,j,g1.bind fun ρ1 H1 M1 x dx e1 j1 c1 g2=>?_⟩
 have c1:x=dx:=c1
 subst c1
 cases x with
 |true=>exact iteT ⟨ρ1,δ,M1,ev.mono e1,j1,g2⟩
 |false=>exact iteF ⟨ρ1,δ,M1,ev.mono e1,j1,g2⟩⟩
theorem ak:DA X E [] (fun _=>pure []):=⟨⟨PA.mono Ef.h fun σ H Q h=>by
 obtain⟨ρ,δ,M,ev,j,g⟩:=h
 exact g.pure ρ H [] .refl j .nil⟩⟩
theorem aj{es:List Expr}{fs:aa->DM (List D)}(ha:DE X E a fa)(hr:DA X E es fs)(hs:notStar a=true:=by rfl):DA X E (a::es) (fun δ=>fa δ>>=fun x=>fs δ>>=fun xs=>pure (x::xs)):=⟨⟨PA.mono (Ho ha.h hr.h hs).h fun σ H Q h=>by
 obtain⟨ρ,δ,M,ev,j,g1⟩:=h
 exact⟨ρ,δ,M,ev,j,g1.bind fun ρ1 H1 M1 x dx e1 j1 c1 g2=>⟨ρ1,δ,M1,ev.mono e1,j1,g2.bind fun ρ2 H2 M2 xs dxs e2 j2 c2 g3=>g3.pure ρ2 H2 _ .refl j2 (.cons (c1.mono e2) c2)⟩⟩⟩⟩
def dg{α:Type}(l:List α):Bool:=decide (l.length≤sizeLine)
def gf(l:List D):DM D:=opt (if dg l then some (.tup l) else none)
def dH(l:List D):DM D:=opt (if dg l then some (.lst l) else none)
def cH(l:List D):DM D:=fun M=>if dg l then some (.ok (.ref M.length),M++[.lst l]) else none
theorem pD{l:List D}{d e:D}(h:(if dg l then some d else none)=some e):l.length≤sizeLine∧d=e:=by
 split at h
 ·cases h;exact⟨of_decide_eq_true ‹_›,rfl⟩
 ·cases h
variable{es:List Expr}{fs:aa->DM (List D)}
theorem aK{x1}(h:DA X E es fs):DE X E (.Tuple es x1 pos) (fun δ=>fs δ>>=gf):=⟨PE.mono (BL h.h) fun σ H Q h=>by
 obtain⟨ρ,δ,M,ev,j,g1⟩:=h
 refine⟨ρ,δ,M,ev,j,g1.bind fun ρ1 H1 M1 xs dxs e1 j1 c1 g2=>?_⟩
 obtain⟨d,e,q⟩:=Go.opt g2
 obtain⟨hz,rfl⟩:=pD e
 exact⟨by rw[c1.len];exact hz,fun p hp=>q ρ1 _ _ (.lay hp) (j1.lay _ hp) (.tup (j1.fresh hp) upd_same (c1.mono (.lay hp)))⟩⟩
theorem bC(h:DA X E es fs):DE X E (.List es pos) (fun δ=>fs δ>>=dH):=⟨PE.mono (uE h.h) fun σ H Q h=>by
 obtain⟨ρ,δ,M,ev,j,g1⟩:=h
 refine⟨ρ,δ,M,ev,j,g1.bind fun ρ1 H1 M1 xs dxs e1 j1 c1 g2=>?_⟩
 obtain⟨d,e,q⟩:=Go.opt g2
 obtain⟨hz,rfl⟩:=pD e
 exact⟨by rw[c1.len];exact hz,fun p hp=>q ρ1 _ _ (.lay hp) (j1.lay _ hp) (.lst (j1.fresh hp) upd_same (c1.mono (.lay hp)))⟩⟩
theorem Go.cH{mg:Str->Option Value}{ρ:Rh}{H:Hp}{M:Mo}{Q:VK}{l:List D}{xs:List V}{p:Addr}(g:Go mg E (Cv mg) Q ρ H (cH l) M)(j:J mg ρ M H)(c:Cvs mg ρ H xs l)(hp:H p=none):l.length≤sizeLine∧Q (.ref p) (upd H p (.lst xs)):=by
 obtain⟨r,e,q⟩:=g
 unfold L3.cH at e
 split at e
 ·cases e
  refine⟨of_decide_eq_true ‹_›,?_⟩
  have x:Ext ρ H (ρ.put p) (upd H p (.lst xs)):=.put hp
  refine q _ _ _ x (j.put hp ⟨xs,upd_same,c.mono x⟩) (.ref ?_)
  show (ρ.st++[p])[_]?=_
  rw[←j.len];simp
 ·cases e
theorem Go.mkR_len{mg:Str->Option Value}{ρ:Rh}{H:Hp}{M:Mo}{Q:VK}{l:List D}(g:Go mg E (Cv mg) Q ρ H (L3.cH l) M):l.length≤sizeLine:=by
 obtain⟨r,e,q⟩:=g
 unfold L3.cH at e
 split at e
 ·exact of_decide_eq_true ‹_›
 ·cases e
theorem pR(h:DA X E es fs):DE X E (.List es pos) (fun δ=>fs δ>>=cH):=⟨PE.mono (uE h.h) fun σ H Q h=>by
 obtain⟨ρ,δ,M,ev,j,g1⟩:=h
 refine⟨ρ,δ,M,ev,j,g1.bind fun ρ1 H1 M1 xs dxs e1 j1 c1 g2=>?_⟩
 exact⟨by rw[c1.len];exact g2.mkR_len,fun p hp=>(g2.cH j1 c1 hp).2⟩⟩
end
section
variable{X:Cx}{E:XK}{mg:Str->Option Value}{ρ:Rh}{H:Hp}{M:Mo}
theorem Go.rdb{α β γ:Type}{rel:Rh->Hp->β->α->Prop}{Q:β->Hp->Prop}{f:Mo->Option γ}{k:γ->DM α}(g:Go mg E rel Q ρ H (L3.rd f>>=k) M):∃a,f M=some a∧Go mg E rel Q ρ H (k a) M:=by
 obtain⟨r,e,p⟩:=g
 have e:DM.bind _ _ M=some r:=e
 unfold DM.bind L3.rd at e
 cases h:f M with
 |none=>rw[h] at e;cases e
 |some a=>rw[h] at e;exact⟨a,rfl,r,e,p⟩
theorem bM.of{f:Value->Value->Sem Value}{r:R2}{g:D->D->Mo->Option D}(hr:OpR X f r)
  (h:∀x y H Q ρ M dx dy d,J X.mg ρ M H->Cv X.mg ρ H x dx->Cv X.mg ρ H y dy->g dx dy M=some d->(∀ρ' H' v,Ext ρ H ρ' H'->J X.mg ρ' M H'->Cv X.mg ρ' H' v d->Q v H')->r x y H Q):bM X E f (fun x y=>rd (g x y)):=by
 intro pins s σ H x y v u Q I rx ry q
 obtain⟨ρ,M,dx,dy,j,cx,cy,go⟩:=q
 obtain⟨d,e,p⟩:=go.rd
 exact hr pins s σ H x y v u Q I rx ry (h x y H Q ρ M dx dy d j cx cy e p)
def aQ:D->Mo->Option (List D)
 |.lst l,_=>some l
 |.ref n,M=>match M[n]? with
   |some (.lst l)=>some l
   |_=>none
 |_,_=>none
theorem cF (j:J mg ρ M H) {x:V}{d:D}{l:List D} (c:Cv mg ρ H x d) (e:aQ d M=some l):∃ a xs,x=.ref a∧H a=some (.lst xs)∧Cvs mg ρ H xs l:=by
 cases c with
 |lst n h c=>cases e;exact⟨_,_,rfl,h,c⟩
 | ref q=>
   unfold aQ at e
   dsimp only at e
   split at e
   ·rename_i l' hl
    cases e
    obtain⟨xs,h,c⟩:=j.obj _ _ _ q hl
    exact⟨_,_,rfl,h,c⟩
   ·cases e
 |_=>cases e
theorem J.notup(j:J mg ρ M H){p:Addr}{xs:List V}(h:H p=Option.some (HO.tup xs)):p∉ρ:=fun z=>by
 rcases z with z | z
 rotate_left
 ·obtain⟨_,ys,e⟩:=j.vol p z
  rw[h] at e;cases e
 obtain⟨n,hn⟩:=List.mem_iff_getElem?.mp z
 have lt:n<M.length:=by rw[←j.len];exact (List.getElem?_eq_some_iff.mp hn).1
 have c:=j.obj n p M[n] hn (List.getElem?_eq_getElem lt)
 cases hm:M[n] with
 |lst l=>rw[hm] at c;obtain⟨xs,e,_⟩:=c;rw[h] at e;cases e
 |dic ks l=>rw[hm] at c;obtain⟨xs,e,_⟩:=c;rw[h] at e;cases e
 |ins c' ns l=>rw[hm] at c;obtain⟨_,_,_,_,e,_⟩:=c;rw[h] at e;cases e
def wy(l:List D):Option D:=if dg l then some (.tup l) else none
def zB(l:List D):Option D:=if dg l then some (.lst l) else none
def b7:D->D->Mo->Option D
 |.int i,.int j,_=>some (.int (i+j))
 |.str a,.str b,_=>if a.length+b.length≤sizeLine then some (.str (a++b)) else none
 |.tup l,.tup m,_=>wy (l++m)
 |x,y,M=>match aQ x M,aQ y M with
   |some l,some m=>zB (l++m)
   |_,_=>none
theorem yP {x y d:D}{M:Mo} (h:b7 x y M=some d):(∃ i j,x=.int i∧y=.int j∧d=.int (i + j))∨(∃ a b,x=.str a∧y=.str b∧a.length + b.length≤sizeLine∧d=.str (a++b))∨(∃ l m,x=.tup l∧y=.tup m∧l.length + m.length≤sizeLine∧d=.tup (l++m)) ∨
  ∃l m,aQ x M=some l∧aQ y M=some m∧l.length+m.length≤sizeLine∧d=.lst (l++m):=by
 unfold b7 at h
 split at h
 ·cases h;exact .inl ⟨_,_,rfl,rfl,rfl⟩
 ·split at h
  ·cases h;exact .inr (.inl ⟨_,_,rfl,rfl,‹_›,rfl⟩)
  ·cases h
 ·obtain⟨hz,rfl⟩:=pD h
  rw[List.length_append] at hz
  exact .inr (.inr (.inl ⟨_,_,rfl,rfl,hz,rfl⟩))
 ·split at h
  ·rename_i l m h1 h2
   obtain⟨hz,rfl⟩:=pD h
   rw[List.length_append] at hz
   exact .inr (.inr (.inr ⟨l,m,h1,h2,hz,rfl⟩))
  ·cases h
theorem aJ:bM X E (binaryOp .Add) (fun x y=>rd (b7 x y)):=by
 refine bM.of (op_add.or (op_add_str.or (Br.or op_cat))) fun x y H Q ρ M dx dy d j cx cy e q=>?_
 rcases yP e with ⟨i,k,rfl,rfl,rfl⟩ | ⟨i,k,rfl,rfl,hz,rfl⟩ | ⟨l,m,rfl,rfl,hz,rfl⟩ | ⟨l,m,h1,h2,hz,rfl⟩
 ·cases cx;cases cy
  exact .inl ⟨_,_,rfl,rfl,q ρ H _ .refl j (.int _)⟩
 ·cases cx;cases cy
  exact .inr (.inl ⟨_,_,rfl,rfl,hz,q ρ H _ .refl j (.str _)⟩)
 ·cases cx with | tup n1 a1 c1=>cases cy with | tup n2 a2 c2=>
  refine .inr (.inr (.inl ⟨_,_,_,_,rfl,rfl,a1,a2,by rw[c1.len,c2.len];exact hz,fun p H' S hp=>?_⟩))
  exact q ρ H' _ (.same S) (j.same S) (.tup ((j.same S).notup hp) hp ((c1.append c2).mono (.same S)))
 ·obtain⟨a1,x1,rfl,a2,c1⟩:=cF j cx h1
  obtain⟨b1,y1,rfl,b2,c2⟩:=cF j cy h2
  refine .inr (.inr (.inr ⟨_,_,_,_,rfl,rfl,a2,b2,by rw[c1.len,c2.len];exact hz,fun p hp=>?_⟩))
  exact q ρ _ _ (.lay hp) (j.lay _ hp) (.lst (j.fresh hp) upd_same ((c1.append c2).mono (.lay hp)))
def Cm (x y:D):DM D:=rd (fun M=>match aQ x M,aQ y M with
    |some l,some m=>some (l++m)
    |_,_=>none)>>=cH
theorem Bq:bM X E (binaryOp .Add) Cm:=by
 intro pins s σ H x y v u Q I rx ry q
 obtain⟨ρ,M,dx,dy,j,cx,cy,go⟩:=q
 obtain⟨z,e,g⟩:=Go.rdb go
 split at e
 ·rename_i l m h1 h2
  cases e
  obtain⟨a1,x1,rfl,a2,c1⟩:=cF j cx h1
  obtain⟨b1,y1,rfl,b2,c2⟩:=cF j cy h2
  have hz:=g.mkR_len
  rw[List.length_append] at hz
  exact op_cat (X:=X) pins s σ H _ _ v u Q I rx ry ⟨_,_,_,_,rfl,rfl,a2,b2,by rw[c1.len,c2.len];exact hz,fun p hp=>(g.cH j (c1.append c2) hp).2⟩
 ·cases e
def cY(C:Int->Int->Bool)(g:Int->Int->D):D->D->Mo->Option D
 |.int i,.int j,_=>if C i j then some (g i j) else none
 |_,_,_=>none
theorem pY{C:Int->Int->Bool}{g:Int->Int->D}{x y d:D}{M:Mo}(h:cY C g x y M=some d):∃i j,x=.int i∧y=.int j∧C i j=true∧d=g i j:=by
 unfold cY at h
 split at h
 ·split at h
  ·cases h;exact⟨_,_,rfl,rfl,‹_›,rfl⟩
  ·cases h
 ·cases h
theorem mC{f:Value->Value->Sem Value}{C:Int->Int->Bool}{g:Int->Int->Int}{P:Int->Int->Prop}(hr:OpR X f (rI P fun i j=>.int (g i j)))(hc:∀i j,C i j=true->P i j):bM X E f (fun x y=>rd (cY C (fun i j=>.int (g i j)) x y)):=
 bM.of hr fun x y H Q ρ M dx dy d j cx cy e q=>by
  obtain⟨i,k,rfl,rfl,hh,rfl⟩:=pY e
  cases cx;cases cy
  exact⟨_,_,rfl,rfl,hc _ _ hh,q ρ H _ .refl j (.int _)⟩
theorem zH{f:Value->Value->Sem Value}{g:Int->Int->Int}(hr:OpR X f (rI0 fun i j=>.int (g i j))):bM X E f (fun x y=>rd (cY (fun _ _=>true) (fun i j=>.int (g i j)) x y)):=
 bM.of hr fun x y H Q ρ M dx dy d j cx cy e q=>by
  obtain⟨i,k,rfl,rfl,hh,rfl⟩:=pY e
  cases cx;cases cy
  exact⟨_,_,rfl,rfl,q ρ H _ .refl j (.int _)⟩
theorem my{f:Value->Value->Sem Value}{g:Int->Int->Bool}(hr:OpR X f (rI0 fun i j=>.bl (g i j))):bM X E f (fun x y=>rd (cY (fun _ _=>true) (fun i j=>.bl (g i j)) x y)):=
 bM.of hr fun x y H Q ρ M dx dy d j cx cy e q=>by
  obtain⟨i,k,rfl,rfl,hh,rfl⟩:=pY e
  cases cx;cases cy
  exact⟨_,_,rfl,rfl,q ρ H _ .refl j (.bl _)⟩
abbrev zW:D->D->Mo->Option D:=cY (fun _ _=>true) fun i j=>.int (i-j)
theorem uD:bM X E (binaryOp .Sub) (fun x y=>rd (zW x y)):=zH op_sub
def fH(i j:Int):Bool:=!(decide (Builtin.Int.intBits i > shortFactorBits)&&decide (Builtin.Int.intBits j > shortFactorBits)&&Builtin.Int.intTooBig (Builtin.Int.intBits i+Builtin.Int.intBits j))
theorem fH.ok{i j:Int}(h:fH i j=true):IntMulOk i j:=fun z=>by
 unfold fH at h
 rw[z] at h;cases h
abbrev fX:D->D->Mo->Option D:=cY fH fun i j=>.int (i*j)
theorem gC:bM X E (binaryOp .Mult) (fun x y=>rd (fX x y)):=mC Bu fun i j h=>fH.ok h
def mq(i j:Int):Bool:=decide (0<j)&&!Builtin.divisionGoesByPylong i j
theorem zJ:OpR X (binaryOp .FloorDiv) (rI (fun i j=>mq i j=true) fun i j=>.int (i / j)):=opI fun i j _ _ _ _ _ hc q=>by
 unfold mq at hc
 have h0:0<j:=by
  have:=(Bool.and_eq_true _ _).mp hc
  exact of_decide_eq_true this.1
 have h1:Builtin.divisionGoesByPylong i j=false:=by
  have:=(Bool.and_eq_true _ _).mp hc
  simpa using this.2
 have e:i.fdiv j=i / j:=Int.fdiv_eq_ediv_of_nonneg i (Int.le_of_lt h0)
 exact floordiv_int (Int.ne_of_gt h0) (by rw[e];exact q) (.inl h1)
abbrev o6:D->D->Mo->Option D:=cY mq fun i j=>.int (i / j)
theorem nY:bM X E (binaryOp .FloorDiv) (fun x y=>rd (o6 x y)):=mC zJ fun i j h=>h
abbrev jM:D->D->Mo->Option D:=cY (fun _ j=>decide (0<j)) fun i j=>.int (i%j)
theorem eZ:bM X E (binaryOp .Mod) (fun x y=>rd (jM x y)):=mC op_mod fun i j h=>of_decide_eq_true h
def Aj(i j:Int):Bool:=decide (0≤j∧j≤1000000∧i.natAbs<2^64)
abbrev qi:D->D->Mo->Option D:=cY Aj fun i j=>.int (i^j.toNat)
theorem jn:bM X E (binaryOp .Pow) (fun x y=>rd (qi x y)):=mC op_pow fun i j h=>of_decide_eq_true (p:=0≤j∧j≤1000000∧i.natAbs<2^64) h
abbrev Do:D->D->Mo->Option D:=cY (fun _ _=>true) fun i j=>.bl (decide (i<j))
abbrev ph:D->D->Mo->Option D:=cY (fun _ _=>true) fun i j=>.bl (decide (i≤j))
abbrev qN:D->D->Mo->Option D:=cY (fun _ _=>true) fun i j=>.bl (decide (j<i))
abbrev o7:D->D->Mo->Option D:=cY (fun _ _=>true) fun i j=>.bl (decide (j≤i))
theorem sX:bM X E (compareOp .Lt) (fun x y=>rd (Do x y)):=my op_lt
theorem pC:bM X E (compareOp .LtE) (fun x y=>rd (ph x y)):=my op_le
theorem sW:bM X E (compareOp .Gt) (fun x y=>rd (qN x y)):=my op_gt
theorem pB:bM X E (compareOp .GtE) (fun x y=>rd (o7 x y)):=my op_ge
def eqP(x y:D):Option Bool:=match toPy x,toPy y with
 |some p,some q=>if p.canLay0&&q.canLay0&&decide (p.depth≤60) then some (PyData.eqv p q) else none
 |_,_=>none
def eqB:D->D->Option Bool
 |.str a,.str b=>some (decide (a=b))
 |x,y=>eqP x y
def b8(x y:D)(_:Mo):Option D:=(eqB x y).map .bl
def cR(x y:D)(_:Mo):Option D:=(eqB x y).map fun b=>.bl (!b)
theorem CQ {x y:D}{b:Bool} (h:eqP x y=some b):∃ p q,toPy x=some p∧toPy y=some q∧p.canLay0=true∧q.canLay0=true∧p.depth≤60∧b=PyData.eqv p q:=by
 unfold eqP at h
 split at h
 ·rename_i p q h1 h2
  split at h
  ·rename_i hc
   cases h
   simp only[Bool.and_eq_true,decide_eq_true_eq] at hc
   exact⟨p,q,h1,h2,hc.1.1,hc.1.2,hc.2,rfl⟩
  ·cases h
 ·cases h
theorem CP{x y:D}{b:Bool}(h:eqB x y=some b):(∃a c,x=.str a∧y=.str c∧b=decide (a=c))∨eqP x y=some b:=by
 unfold eqB at h
 split at h
 ·cases h;exact .inl ⟨_,_,rfl,rfl,rfl⟩
 ·exact .inr h
theorem Ca{a c:Str}:decide (V.str a=V.str c)=decide (a=c):=by
 rw[Bool.eq_iff_iff];simp
theorem uC{f:Value->Value->Sem Value}{n:Bool}(h1:OpR X f (fun x y H Q=>scal x y=true∧Q (.bl (n ^^ decide (x=y))) H))(h2:OpR X f (zR X.K n)):bM X E f (fun x y=>rd fun _=>(eqB x y).map fun b=>.bl (n ^^ b)):=by
 intro pins s σ H x y v u Q I rx ry q
 obtain⟨ρ,M,dx,dy,j,cx,cy,g⟩:=q
 obtain⟨d,e,q⟩:=Go.rd g
 obtain⟨b,hb,rfl⟩:=Option.map_eq_some_iff.mp e
 rcases CP hb with ⟨a,c,rfl,rfl,rfl⟩ | hb
 ·cases cx;cases cy
  refine h1 pins s σ H _ _ v u Q I rx ry ⟨rfl,?_⟩
  rw[Ca]
  exact q ρ H _ .refl j (.bl _)
 ·obtain⟨p,p',k1,k2,h3,h4,h5,rfl⟩:=CQ hb
  refine h2 pins s σ H x y v u Q I rx ry ⟨p,p',(cx.repF k1).toRep,(cy.repF k2).toRep,h3,h4,h5,?_⟩
  have:=q ρ H _ .refl j (.bl _)
  cases n
  ·simpa using this
  ·simpa using this
theorem bJ(hu:X.A.units+64<cLine):bM X E (compareOp .Eq) (fun x y=>rd (b8 x y)):=by
 have h:=uC (X:=X) (E:=E) (n:=false) (f:=compareOp .Eq) (fun pins s σ H x y v u Q I rx ry q=>op_eq (X:=X) pins s σ H x y v u Q I rx ry ⟨q.1,by simpa using q.2⟩) (Dz hu)
 have e:(fun x y=>(rd (b8 x y):DM D))=fun x y=>rd fun _=>(eqB x y).map fun b=>.bl (false ^^ b):=by
  funext x y
  show rd _=rd _
  congr 1
  funext M
  simp only[b8,Bool.false_xor,Bool.true_xor]
 rw[e];exact h
theorem cX(hu:X.A.units+64<cLine):bM X E (compareOp .NotEq) (fun x y=>rd (cR x y)):=by
 have h:=uC (X:=X) (E:=E) (n:=true) (f:=compareOp .NotEq) (fun pins s σ H x y v u Q I rx ry q=>op_ne (X:=X) pins s σ H x y v u Q I rx ry ⟨q.1,by simpa using q.2⟩) (DN hu)
 have e:(fun x y=>(rd (cR x y):DM D))=fun x y=>rd fun _=>(eqB x y).map fun b=>.bl (true ^^ b):=by
  funext x y
  show rd _=rd _
  congr 1
  funext M
  simp only[cR,Bool.false_xor,Bool.true_xor]
 rw[e];exact h
def vK:D->D->Mo->Option D
 |.tup [c],.int k,_=>if decide (1≤k∧k≤1000) then some (.tup (List.replicate k.toNat c)) else none
 |_,_,_=>none
theorem Cvs.rep{v:V}{d:D}(c:Cv mg ρ H v d):∀n,Cvs mg ρ H (List.replicate n v) (List.replicate n d)
 |0=>.nil
 |n+1=>.cons c (Cvs.rep c n)
theorem mD:bM X E (binaryOp .Mult) (fun x y=>rd (vK x y)):=bM.of By fun x y H Q ρ M dx dy d j cx cy e q=>by
 unfold vK at e
 split at e
 ·split at e
  ·rename_i hk
   have hk:=of_decide_eq_true hk
   cases e
   cases cy
   cases cx with | tup n a c=>cases c with | cons c1 c2=>
   cases c2
   refine⟨_,_,_,rfl,rfl,a,hk.1,hk.2,fun p H' S hp=>?_⟩
   exact q ρ H' _ (.same S) (j.same S) (.tup ((j.same S).notup hp) hp ((Cvs.rep c1 _).mono (.same S)))
  ·cases e
 ·cases e
def vP(l:List D)(k:Int):Option (List D):=if decide (-(2^63)≤k∧k<2^63∧l.length*k.toNat≤sizeLine) then some (List.replicate k.toNat l).flatten else none
theorem Cvs.reps{vs:List V}{ds:List D}(c:Cvs mg ρ H vs ds):∀n,Cvs mg ρ H (List.replicate n vs).flatten (List.replicate n ds).flatten
 |0=>.nil
 |n+1=>by rw[List.replicate_succ,List.replicate_succ,List.flatten_cons,List.flatten_cons];exact c.append (Cvs.reps c n)
def nU(x y:D)(M:Mo):Option (List D):=match aQ x M,y with
 |some l,.int k=>vP l k
 |_,_=>none
theorem uB {x y:D}{l:List D} (h:nU x y M=some l):∃ m k,aQ x M=some m∧y=.int k∧(-(2 ^ 63)≤k∧k<2 ^ 63∧m.length * k.toNat≤sizeLine)∧l=(List.replicate k.toNat m).flatten:=by
 unfold nU at h
 split at h
 ·rename_i m k h1
  unfold vP at h
  split at h
  ·rename_i hk
   cases h
   exact⟨m,k,h1,rfl,of_decide_eq_true hk,rfl⟩
  ·cases h
 ·cases h
theorem Bw:bM X E (binaryOp .Mult) (fun x y=>rd (fun M=>(nU x y M).map .lst)):=bM.of op_rep fun x y H Q ρ M dx dy d j cx cy e q=>by
 obtain⟨l,e1,rfl⟩:=Option.map_eq_some_iff.mp e
 obtain⟨m,k,h1,rfl,⟨h2,h3,h4⟩,rfl⟩:=uB e1
 obtain⟨a,xs,rfl,ha,c⟩:=cF j cx h1
 cases cy
 refine⟨_,_,_,rfl,rfl,ha,h2,h3,by rw[c.len];exact h4,fun p hp=>?_⟩
 exact q ρ _ _ (.lay hp) (j.lay _ hp) (.lst (j.fresh hp) upd_same ((Cvs.reps c _).mono (.lay hp)))
def Dr(x y:D):DM D:=rd (nU x y)>>=cH
theorem Bx:bM X E (binaryOp .Mult) Dr:=by
 intro pins s σ H x y v u Q I rx ry q
 obtain⟨ρ,M,dx,dy,j,cx,cy,go⟩:=q
 obtain⟨l,e1,g⟩:=Go.rdb go
 obtain⟨m,k,h1,rfl,⟨h2,h3,h4⟩,rfl⟩:=uB e1
 obtain⟨a,xs,rfl,ha,c⟩:=cF j cx h1
 cases cy
 exact op_rep (X:=X) pins s σ H _ _ v u Q I rx ry ⟨_,_,_,rfl,rfl,ha,h2,h3,by rw[c.len];exact h4,fun p hp=>(g.cH j (Cvs.reps c _) hp).2⟩
def zF:D->Mo->Option D
 |.int i,_=>some (.int (-i))
 |_,_=>none
theorem je{a:Expr}{fa:aa->DM D}{pos:Pos}(ha:DE X E a fa):DE X E (.UnaryOp .USub a pos) (fun δ=>fa δ>>=fun x=>rd (zF x)):=⟨PE.mono (pe_un un_neg ha.h) fun σ H Q h=>by
 obtain⟨ρ,δ,M,ev,j,g1⟩:=h
 refine⟨ρ,δ,M,ev,j,g1.bind fun ρ1 H1 M1 x dx e1 j1 c1 g2=>?_⟩
 obtain⟨d,e,q⟩:=g2.rd
 unfold zF at e
 split at e
 ·cases e;cases c1
  exact⟨_,rfl,q ρ1 H1 _ .refl j1 (.int _)⟩
 ·cases e⟩
theorem Cvs.at{vs:List V}{ds:List D}{i:Int}{d:D}(c:Cvs mg ρ H vs ds)(h:atI ds i=some d):∃v,atI vs i=some v∧Cv mg ρ H v d:=by
 unfold atI at h ⊢
 rw[c.len]
 obtain⟨n,hn,e⟩:=Option.bind_eq_some_iff.mp h
 obtain⟨v,e2,cv⟩:=c.get e
 exact⟨v,by rw[hn];exact e2,cv⟩
def gP:D->D->Mo->Option D
 |.tup l,.int i,_=>atI l i
 |.scr l,.int i,_=>(atI l i).map .int
 |x,.int i,M=>(aQ x M).bind fun l=>atI l i
 |_,_,_=>none
def GX(X:Cx)(E:XK)(g:D->D->DM D):Prop:=IxR X (rD X.mg E g)
theorem cZ:GX X E (fun x y=>rd (gP x y)):=by
 intro value slice pins s σ H x y v u Q I rx ry q hs
 obtain⟨ρ,M,dx,dy,j,cx,cy,go⟩:=q
 obtain⟨d,e,p⟩:=go.rd
 unfold gP at e
 split at e
 ·cases cy
  cases cx with | tup n a c=>
  obtain⟨w,e2,cw⟩:=c.at e
  exact ix_tup (X:=X) value slice pins s σ H _ _ v u Q I rx ry ⟨_,_,_,_,rfl,rfl,SqT.of a,e2,p ρ H _ .refl j cw⟩ hs
 ·rename_i l i
  cases cy
  cases cx with | scr n a=>
  obtain⟨z,e1,rfl⟩:=Option.map_eq_some_iff.mp e
  have e2:atI (l.map V.int) i=some (V.int z):=by
   unfold atI at e1 ⊢
   rw[List.length_map]
   obtain⟨n,hn,e⟩:=Option.bind_eq_some_iff.mp e1
   rw[hn]
   show (List.map V.int _)[n]?=_
   rw[List.getElem?_map,e];rfl
  exact ix_list (X:=X) value slice pins s σ H _ _ v u Q I rx ry ⟨_,_,_,_,rfl,rfl,.inl a,e2,p ρ H _ .refl j (.int z)⟩ hs
 ·cases cy
  obtain⟨l,h1,e1⟩:=Option.bind_eq_some_iff.mp e
  obtain⟨a,xs,rfl,ha,c⟩:=cF j cx h1
  obtain⟨w,e2,cw⟩:=c.at e1
  exact ix_list (X:=X) value slice pins s σ H _ _ v u Q I rx ry ⟨_,_,_,_,rfl,rfl,SqL.of ha,e2,p ρ H _ .refl j cw⟩ hs
 ·cases e
theorem cu{a b:Expr}{fa fb:aa->DM D}{pos:Pos}{g:D->D->DM D}(hi:GX X E g)(ha:DE X E a fa)(hb:DE X E b fb)(hs:PlainIx b:=by exact fun _ _=>rfl):DE X E (.Subscript a b pos) (fun δ=>fa δ>>=fun x=>fb δ>>=fun y=>g x y):=
 ⟨PE.mono (pe_ix hi ha.h hb.h hs) fun σ H Q h=>ux (fun _ _ _ _ z=>z) h⟩
def ul:D->DM (Option Int)
 |.int i=>pure (some i)
 |_=>stuck
def cutD(xs:List D)(lo hi:Option Int):List D:=(xs.drop (HT.sIx xs.length 0 lo)).take (HT.sIx xs.length xs.length hi-HT.sIx xs.length 0 lo)
theorem Cvs.cut{vs:List V}{ds:List D}(c:Cvs mg ρ H vs ds)(lo hi:Option Int):Cvs mg ρ H (cutV vs lo hi) (cutD ds lo hi):=by
 unfold cutV cutD
 rw[c.len]
 exact (c.drop _).take _
structure DP(X:Cx)(E:XK)(e:Option Expr)(f:aa->DM (Option Int)):Prop where
 h:PO X e (tD X.mg E (fun _ _ (b a:Option Int)=>b=a) f)
theorem PO.mono{e:Option Expr}{t t':TO}(h:PO X e t)(f:∀σ H Q,t' σ H Q->t σ H Q):PO X e t':=fun pins s σ H Q I q=>h pins s σ H Q I (f σ H Q q)
theorem bV:DP X E none (fun _=>pure none):=⟨PO.mono po_none fun σ H Q h=>by
 obtain⟨ρ,δ,M,ev,j,g⟩:=h
 exact g.pure ρ H none .refl j rfl⟩
theorem bH{a:Expr}{fa:aa->DM D}(ha:DE X E a fa):DP X E (some a) (fun δ=>fa δ>>=ul):=⟨PO.mono (po_some ha.h) fun σ H Q h=>by
 obtain⟨ρ,δ,M,ev,j,g1⟩:=h
 refine⟨ρ,δ,M,ev,j,g1.bind fun ρ1 H1 M1 x dx e1 j1 c1 g2=>?_⟩
 cases dx with
 |int i=>cases c1;exact⟨i,rfl,Go.pure (a:=some i) g2 ρ1 H1 _ .refl j1 rfl⟩
 |_=>obtain⟨r,e,_⟩:=g2;cases e⟩
def ir(lo hi:Option Int):D->Mo->Option D
 |.tup l,_=>some (.tup (cutD l lo hi))
 |x,M=>(aQ x M).map fun l=>.lst (cutD l lo hi)
theorem Hw:SlR X (fun x lo hi H Q=>∃ρ M dx d,J X.mg ρ M H∧Cv X.mg ρ H x dx∧ir lo hi dx M=some d∧∀ρ' H' v,Ext ρ H ρ' H'->J X.mg ρ' M H'->Cv X.mg ρ' H' v d->Q v H'):=by
 intro pins s σ H x v vl vu lo hi sl Q I rx hs pl pu h
 obtain⟨ρ,M,dx,d,j,c,e,q⟩:=h
 unfold ir at e
 split at e
 ·cases e
  cases c with | tup n a c=>
  refine BZ (X:=X) pins s σ H _ v vl vu lo hi sl Q I rx hs pl pu ⟨_,_,rfl,a,fun p H' S hp=>?_⟩
  exact q ρ H' _ (.same S) (j.same S) (.tup ((j.same S).notup hp) hp ((c.cut lo hi).mono (.same S)))
 ·obtain⟨l,h1,rfl⟩:=Option.map_eq_some_iff.mp e
  obtain⟨a,xs,rfl,ha,c⟩:=cF j c h1
  refine sl_list (X:=X) pins s σ H _ v vl vu lo hi sl Q I rx hs pl pu ⟨_,_,rfl,SqL.of ha,fun p hp=>?_⟩
  exact q ρ _ _ (.lay hp) (j.lay _ hp) (.lst (j.fresh hp) upd_same ((c.cut lo hi).mono (.lay hp)))
theorem bx{a:Expr}{fa:aa->DM D}{lo hi:Option Expr}{fl fh:aa->DM (Option Int)}{p2 pos:Pos}(ha:DE X E a fa)(hl:DP X E lo fl)(hh:DP X E hi fh) :
  DE X E (.Subscript a (.Slice lo hi none p2) pos) (fun δ=>fa δ>>=fun x=>fl δ>>=fun l=>fh δ>>=fun h=>rd (ir l h x)):=⟨PE.mono (pe_slice Hw ha.h hl.h hh.h) fun σ H Q h=>by
 obtain⟨ρ,δ,M,ev,j,g1⟩:=h
 refine⟨ρ,δ,M,ev,j,g1.bind fun ρ1 H1 M1 x dx e1 j1 c1 g2=>⟨ρ1,δ,M1,ev.mono e1,j1,g2.bind fun ρ2 H2 M2 l dl e2 j2 c2 g3=>⟨ρ2,δ,M2,(ev.mono e1).mono e2,j2,g3.bind fun ρ3 H3 M3 h dh e3 j3 c3 g4=>?_⟩⟩⟩
 have c2:l=dl:=c2
 have c3:h=dh:=c3
 subst c2 c3
 obtain⟨d,e,q⟩:=g4.rd
 exact⟨ρ3,M3,dx,d,j3,(c1.mono e2).mono e3,e,q⟩⟩
end
inductive Fl where
 |nx (δ:aa) | rt (d:D) | bk (δ:aa) | ct (δ:aa)
def lZ(mg:Str->Option Value)(ρ:Rh)(H:Hp)(D:Ends)(E:XK):R Fl×Mo->Prop
 |(.ok (.nx δ'),M')=>∀ρ' H' σ',Ext ρ H ρ' H'->J mg ρ' M' H'->Ev mg ρ' H' σ' δ'->D.nx σ' H'
 |(.ok (.bk δ'),M')=>∀ρ' H' σ',Ext ρ H ρ' H'->J mg ρ' M' H'->Ev mg ρ' H' σ' δ'->D.bk σ' H'
 |(.ok (.ct δ'),M')=>∀ρ' H' σ',Ext ρ H ρ' H'->J mg ρ' M' H'->Ev mg ρ' H' σ' δ'->D.ct σ' H'
 |(.ok (.rt d),M')=>∀ρ' H' v,Ext ρ H ρ' H'->J mg ρ' M' H'->Cv mg ρ' H' v d->D.rt v H'
 |(.exc c,M')=>∀ρ' H' C,Ext ρ H ρ' H'->J mg ρ' M' H'->mg c=some (.ref C)->E (.ref C) none H'
def bu(mg:Str->Option Value)(E:XK)(D:Ends)(ρ:Rh)(H:Hp)(m:DM Fl)(M:Mo):Prop:=∃r,m M=some r∧lZ mg ρ H D E r
section
variable{mg:Str->Option Value}{ρ ρ':Rh}{H H':Hp}{E:XK}{α β:Type}{rel:Rh->Hp->β->α->Prop}{D D':Ends}{Q':β->Hp->Prop}{M:Mo}
theorem lZ.mono{r:R Fl×Mo}(e:Ext ρ H ρ' H')(h:lZ mg ρ H D E r):lZ mg ρ' H' D E r:=by
 obtain⟨r,M'⟩:=r
 cases r with
 |ok a=>cases a<;>exact fun ρ2 H2 b e2 j c=>h ρ2 H2 b (e.trans e2) j c
 |exc c=>exact fun ρ2 H2 C e2 j m=>h ρ2 H2 C (e.trans e2) j m
theorem bu.bind{m:DM α}{k:α->DM Fl}(g:bu mg E D ρ H (m>>=k) M)
  (f:∀ρ1 H1 M1 b a,Ext ρ H ρ1 H1->J mg ρ1 M1 H1->rel ρ1 H1 b a->bu mg E D ρ1 H1 (k a) M1->Q' b H1):Go mg E rel Q' ρ H m M:=by
 obtain⟨r,e,p⟩:=g
 have e:DM.bind m k M=some r:=e
 unfold DM.bind at e
 split at e
 ·cases e
 ·rename_i c M' em
  cases e
  exact⟨_,em,p⟩
 ·rename_i a M' em
  exact⟨_,em,fun ρ1 H1 b x j c=>f ρ1 H1 M' b a x j c ⟨r,e,p.mono x⟩⟩
theorem bu.pure{a:Fl}(g:bu mg E D ρ H (pure a) M):lZ mg ρ H D E (.ok a,M):=by
 obtain⟨r,e,p⟩:=g
 have e:some (R.ok a,M)=some r:=e
 cases e
 exact p
def ou(f g:aa->DM Fl):aa->DM Fl:=fun δ=>f δ>>=fun r=>match r with
 |.nx δ'=>g δ'
 |r=>Pure.pure r
theorem bu.seq{f:DM Fl}{k:Fl->DM Fl}(g:bu mg E D ρ H (f>>=k) M)
  (hn:∀δ' ρ1 H1 M1 σ1,Ext ρ H ρ1 H1->J mg ρ1 M1 H1->Ev mg ρ1 H1 σ1 δ'->bu mg E D ρ1 H1 (k (.nx δ')) M1->D'.nx σ1 H1)
  (hb:∀δ' ρ1 H1 M1 σ1,Ext ρ H ρ1 H1->J mg ρ1 M1 H1->Ev mg ρ1 H1 σ1 δ'->bu mg E D ρ1 H1 (k (.bk δ')) M1->D'.bk σ1 H1)
  (hc:∀δ' ρ1 H1 M1 σ1,Ext ρ H ρ1 H1->J mg ρ1 M1 H1->Ev mg ρ1 H1 σ1 δ'->bu mg E D ρ1 H1 (k (.ct δ')) M1->D'.ct σ1 H1)
  (hr:∀d ρ1 H1 M1 v,Ext ρ H ρ1 H1->J mg ρ1 M1 H1->Cv mg ρ1 H1 v d->bu mg E D ρ1 H1 (k (.rt d)) M1->D'.rt v H1):bu mg E D' ρ H f M:=by
 obtain⟨r,e,p⟩:=g
 have e:DM.bind f k M=some r:=e
 unfold DM.bind at e
 split at e
 ·cases e
 ·rename_i c M' em
  cases e
  exact⟨_,em,p⟩
 ·rename_i a M' em
  refine⟨_,em,?_⟩
  cases a with
  |nx δ'=>exact fun ρ1 H1 b x j c=>hn δ' ρ1 H1 M' b x j c ⟨r,e,p.mono x⟩
  |bk δ'=>exact fun ρ1 H1 b x j c=>hb δ' ρ1 H1 M' b x j c ⟨r,e,p.mono x⟩
  |ct δ'=>exact fun ρ1 H1 b x j c=>hc δ' ρ1 H1 M' b x j c ⟨r,e,p.mono x⟩
  |rt d=>exact fun ρ1 H1 b x j c=>hr d ρ1 H1 M' b x j c ⟨r,e,p.mono x⟩
end
def tS(mg:Str->Option Value)(E:XK)(f:aa->DM Fl):TS:=fun D σ H=>∃ρ δ M,Ev mg ρ H σ δ∧J mg ρ M H∧bu mg E D ρ H (f δ) M
structure DS(X:Cx)(E:XK)(st:Stmt)(f:aa->DM Fl):Prop where
 h:PS X st (tS X.mg E f)
structure DSs(X:Cx)(E:XK)(st:List Stmt)(f:aa->DM Fl):Prop where
 h:PSs X st (tS X.mg E f)
theorem PS.mono{X:Cx}{e:Stmt}{t t':TS}(h:PS X e t)(f:∀D σ H,t' D σ H->t D σ H):PS X e t':=fun pins s σ H D I q=>h pins s σ H D I (f D σ H q)
theorem PSs.mono{X:Cx}{e:List Stmt}{t t':TS}(h:PSs X e t)(f:∀D σ H,t' D σ H->t D σ H):PSs X e t':=fun pins s σ H D I q=>h pins s σ H D I (f D σ H q)
section
variable{X:Cx}{E:XK}{st:Stmt}{rest:List Stmt}{f g:aa->DM Fl}{e:Expr}{fe:aa->DM D}{pos:Pos}
theorem aW:DSs X E [] (fun δ=>pure (.nx δ)):=⟨PSs.mono pss_nil fun D σ H h=>by
 obtain⟨ρ,δ,M,ev,j,g⟩:=h
 exact g.pure ρ H σ .refl j ev⟩
theorem aB(h:DS X E st f):DSs X E [st] f:=⟨pss_one h.h⟩
theorem aA(h1:DS X E st f)(h2:DSs X E rest g):DSs X E (st::rest) (ou f g):=⟨PSs.mono (pss_cons h1.h h2.h) fun D σ H h=>by
 obtain⟨ρ,δ,M,ev,j,g1⟩:=h
 refine⟨ρ,δ,M,ev,j,g1.seq (fun δ' ρ1 H1 M1 σ1 e1 j1 ev1 g2=>⟨ρ1,δ',M1,ev1,j1,g2⟩) (fun δ' ρ1 H1 M1 σ1 e1 j1 ev1 g2=>?_) (fun δ' ρ1 H1 M1 σ1 e1 j1 ev1 g2=>?_) (fun d ρ1 H1 M1 v e1 j1 c1 g2=>?_)⟩
 ·exact bu.pure g2 ρ1 H1 σ1 .refl j1 ev1
 ·exact bu.pure g2 ρ1 H1 σ1 .refl j1 ev1
 ·exact bu.pure g2 ρ1 H1 v .refl j1 c1⟩
theorem aH(he:DE X E e fe):DS X E (.Return (some e) pos) (fun δ=>fe δ>>=fun d=>pure (.rt d)):=⟨PS.mono (L2.ps_ret he.h) fun D σ H h=>by
 obtain⟨ρ,δ,M,ev,j,g1⟩:=h
 exact⟨ρ,δ,M,ev,j,g1.bind fun ρ1 H1 M1 v d e1 j1 c1 g2=>g2.pure ρ1 H1 v .refl j1 c1⟩⟩
theorem uq(he:DE X E e fe)(hs:swapsWith e none pos.line X.env=pure false:=by rfl):DS X E (.Expr e pos) (fun δ=>fe δ>>=fun _=>pure (.nx δ)):=⟨PS.mono (ps_expr he.h hs) fun D σ H h=>by
 obtain⟨ρ,δ,M,ev,j,g1⟩:=h
 exact⟨ρ,δ,M,ev,j,g1.bind fun ρ1 H1 M1 v d e1 j1 c1 g2=>g2.pure ρ1 H1 σ .refl j1 (ev.mono e1)⟩⟩
theorem bh{i:Nat}{x:Str}{pos':Pos}(hN:X.N.Nodup)(hi:X.N[i]?=some x)(hx:Loc X.env.scope x)(he:DE X E e fe)(hs:swapsWith e (some (.Name x pos')) pos.line X.env=pure false:=by rfl)(hf:X.fn x=true∨X.env.scope.names.lookup x=some .local:=by first | exact .inl rfl | exact .inr rfl | assumption) :
  DS X E (.Assign [.Name x pos'] e pos) (fun δ=>fe δ>>=fun d=>pure (.nx (δ.set i (some d)))):=⟨PS.mono (ps_set hN hi hx he.h hs hf) fun D σ H h=>by
 obtain⟨ρ,δ,M,ev,j,g1⟩:=h
 exact⟨ρ,δ,M,ev,j,g1.bind fun ρ1 H1 M1 v d e1 j1 c1 g2=>g2.pure ρ1 H1 _ .refl j1 ((ev.mono e1).set c1)⟩⟩
theorem bL{c:Expr}{a b:List Stmt}{tc:aa->DM Bool}(hc:DT X E c tc)(ha:DSs X E a f)(hb:DSs X E b g):DS X E (.If c a b pos) (fun δ=>tc δ>>=fun k=>if k then f δ else g δ):=⟨PS.mono (L2.ps_if hc.h ha.h hb.h) fun D σ H h=>by
 obtain⟨ρ,δ,M,ev,j,g1⟩:=h
 refine⟨ρ,δ,M,ev,j,g1.bind fun ρ1 H1 M1 x dx e1 j1 c1 g2=>?_⟩
 have c1:x=dx:=c1
 subst c1
 cases x with
 |true=>exact iteT ⟨ρ1,δ,M1,ev.mono e1,j1,g2⟩
 |false=>exact iteF ⟨ρ1,δ,M1,ev.mono e1,j1,g2⟩⟩
def tG(mg:Str->Option Value)(E:XK)(fg:D->aa->DM aa):TG:=fun v σ H Q=>∃ρ δ M d,Ev mg ρ H σ δ∧J mg ρ M H∧Cv mg ρ H v d∧Go mg E (Ev mg) Q ρ H (fg d δ) M
def Ie(mg:Str->Option Value)(E:XK)(fg:List D->aa->DM aa):TGs:=fun vs σ H Q=>∃ρ δ M ds,Ev mg ρ H σ δ∧J mg ρ M H∧Cvs mg ρ H vs ds∧Go mg E (Ev mg) Q ρ H (fg ds δ) M
structure DG(X:Cx)(E:XK)(tg:Expr)(fg:D->aa->DM aa):Prop where
 h:PG X tg (tG X.mg E fg)
structure DGs(X:Cx)(E:XK)(tg:List Expr)(fg:List D->aa->DM aa):Prop where
 h:PGs X tg (Ie X.mg E fg)
theorem PG.mono{tg:Expr}{t t':TG}(h:PG X tg t)(f:∀v σ H Q,t' v σ H Q->t v σ H Q):PG X tg t':=fun pins s σ H v u Q I r q=>h pins s σ H v u Q I r (f v σ H Q q)
theorem PGs.mono{tg:List Expr}{t t':TGs}(h:PGs X tg t)(f:∀v σ H Q,t' v σ H Q->t v σ H Q):PGs X tg t':=fun pins s σ H v u Q I r q=>h pins s σ H v u Q I r (f v σ H Q q)
def gN(i:Nat):D->aa->DM aa:=fun d δ=>pure (δ.set i (some d))
theorem bF{i:Nat}{x:Str}(hN:X.N.Nodup)(hi:X.N[i]?=some x)(hx:Loc X.env.scope x)(hf:X.fn x=true∨X.env.scope.names.lookup x=some .local:=by first | exact .inl rfl | exact .inr rfl | assumption):DG X E (.Name x pos) (gN i):=
 ⟨PG.mono (pg_name hN hi hx hf) fun v σ H Q h=>by
  obtain⟨ρ,δ,M,d,ev,j,c,g1⟩:=h
  exact Go.pure g1 ρ H _ .refl j (ev.set c)⟩
def Ae:List D->aa->DM aa
 |[],δ=>pure δ
 |_,_=>stuck
def xm(f:D->aa->DM aa)(fs:List D->aa->DM aa):List D->aa->DM aa
 |d::l,δ=>f d δ>>=fun δ'=>fs l δ'
 |_,_=>stuck
theorem pU:DGs X E [] Ae:=⟨PGs.mono pgs_nil fun vs σ H Q h=>by
 obtain⟨ρ,δ,M,ds,ev,j,c,g1⟩:=h
 cases c with
 |nil=>exact⟨rfl,Go.pure (a:=δ) g1 ρ H σ .refl j ev⟩
 |cons _ _=>obtain⟨r,e,_⟩:=g1;cases e⟩
theorem eX {es:List Expr}{fg:D->aa->DM aa}{fgs:List D->aa->DM aa} (h1:DG X E e fg) (h2:DGs X E es fgs) (hs:(assignEach (e::es) X.env).map (·.2)=assign e X.env::(assignEach es X.env).map (·.2):=by rfl):DGs X E (e::es) (xm fg fgs):=
 ⟨PGs.mono (pgs_cons h1.h h2.h hs) fun vs σ H Q h=>by
  obtain⟨ρ,δ,M,ds,ev,j,c,g1⟩:=h
  cases c with
  |nil=>obtain⟨r,e,_⟩:=g1;cases e
  |cons c1 c2=>
    have g1:Go X.mg E (Ev X.mg) Q ρ H (fg _ δ>>=fun δ'=>fgs _ δ') M:=g1
    exact⟨_,_,rfl,ρ,δ,M,_,ev,j,c1,g1.bind fun ρ1 H1 M1 σ1 δ1 e1 j1 ev1 g2=>⟨ρ1,δ1,M1,_,ev1,j1,c2.mono e1,g2⟩⟩⟩
def gT(n:Nat)(fs:List D->aa->DM aa):D->aa->DM aa
 |.tup l,δ=>if l.length=n then fs l δ else stuck
 |_,_=>stuck
theorem rY {es:List Expr}{k:Nat}{n:Nat}{fgs:List D->aa->DM aa} (hc:X.calm=true) (h:DGs X E es fgs) (hn:(assignEach es X.env).length=n:=by rfl) (hst:(assignEach es X.env).findIdx? (·.1)=none:=by rfl):DG X E (.Tuple es k pos) (gT n fgs):=
 ⟨PG.mono (pg_tup hc h.h hn hst) fun v σ H Q h=>by
  obtain⟨ρ,δ,M,d,ev,j,c,g1⟩:=h
  cases c with
  | tup nx a c=>
    have g1:Go X.mg E (Ev X.mg) Q ρ H (if _ then _ else _) M:=g1
    split at g1
    ·rename_i hl
     exact⟨_,_,rfl,SqT.of a,by rw[c.len];exact hl,ρ,δ,M,_,ev,j,c,g1⟩
    ·obtain⟨r,e,_⟩:=g1;cases e
  |_=>obtain⟨r,e,_⟩:=g1;cases e⟩
def vX:D->D->D->DM Unit
 | .ref n,.int k,v=>fun M=>match M[n]? with
   |some (.lst l)=>match ixN l.length k with
     |some j=>some (.ok (),M.set n (.lst (l.set j v)))
     |none=>none
   |_=>none
 |_,_,_=>stuck
def Ak(mg:Str->Option Value)(E:XK)(gs:D->D->D->DM Unit):TSet:=fun o i v H Q=>∃ρ M dO di dv,J mg ρ M H∧Cv mg ρ H o dO∧Cv mg ρ H i di∧Cv mg ρ H v dv∧Go mg E (fun _ _ (_:Unit) (_:Unit)=>True) (fun _ H'=>Q H') ρ H (gs dO di dv) M
theorem rB:PSet X (Ak X.mg E vX):=by
 intro pins s σ H o i v ov iv u Q I ro ri rv h
 obtain⟨ρ,M,dO,di,dv,j,co,ci,cv,r,e,p⟩:=h
 cases co with
 | ref hn=>
   cases ci with
   | int k=>
     rename_i n a
     have e:(match M[n]? with
      |some (.lst l)=>match ixN l.length k with
        |some j=>some (R.ok (),M.set n (.lst (l.set j dv)))
        |none=>none
      |_=>none)=some r:=e
     split at e
     ·rename_i l hl
      split at e
      ·rename_i q hq
       cases e
       obtain⟨xs,hx,c⟩:=j.obj _ _ _ hn hl
       have x:Ext ρ H ρ (upd H a (.lst (xs.set q v))):=.upd (List.mem_of_getElem? hn)
       exact set_list (X:=X) pins s σ H _ _ v ov iv u Q I ro ri rv ⟨_,_,_,q,rfl,rfl,hx,by rw[c.len];exact hq,p ρ _ () x (j.upd hn ⟨_,upd_same,(c.set cv q).mono x⟩) trivial⟩
      ·cases e
     ·cases e
   |_=>cases e
 |_=>cases e
theorem oY {o i:Expr}{fo fi:aa->DM D}{gs:D->D->D->DM Unit} (ho:DE X E o fo) (hi:DE X E i fi) (hs:PSet X (Ak X.mg E gs))
  (ha:∀v,assign (.Subscript o i pos) X.env v=(do
    let ov ←holding [v] (eval o X.env)
    let iv ←holding [v,ov] (eval i X.env)
    standAt pos
    holding [v,ov,iv] (setItem ov iv v)
    release [v,ov,iv] []):=by intro _;rfl):DG X E (.Subscript o i pos) (fun d δ=>fo δ>>=fun o=>fi δ>>=fun i=>gs o i d>>=fun _=>pure δ):=
 ⟨PG.mono (pg_sub ho.h hi.h hs ha) fun v σ H Q h=>by
  obtain⟨ρ,δ,M,d,ev,j,c,g1⟩:=h
  exact⟨ρ,δ,M,ev,j,g1.bind fun ρ1 H1 M1 x dx e1 j1 c1 g2=>⟨ρ1,δ,M1,ev.mono e1,j1,g2.bind fun ρ2 H2 M2 y dy e2 j2 c2 g3=>⟨ρ2,M2,dx,dy,d,j2,c1.mono e2,c2,(c.mono e1).mono e2,g3.bind fun ρ3 H3 M3 _ _ e3 j3 _ g4=>g4.pure ρ3 H3 σ .refl j3 (((ev.mono e1).mono e2).mono e3)⟩⟩⟩⟩
theorem jg{tg:Expr}{fg:D->aa->DM aa}(he:DE X E e fe)(hg:DG X E tg fg)(hs:swapsWithSole [tg] e pos.line X.env=pure false:=by rfl)(hw:swappedStores [tg] e X.env=pure none:=by rfl)
  (h1:(assignEach [tg] X.env).map (·.2)=[assign tg X.env]:=by rfl):DS X E (.Assign [tg] e pos) (fun δ=>fe δ>>=fun d=>fg d δ>>=fun δ'=>pure (.nx δ')):=⟨PS.mono (ps_asg he.h hg.h hs hw h1) fun D σ H h=>by
 obtain⟨ρ,δ,M,ev,j,g1⟩:=h
 exact⟨ρ,δ,M,ev,j,g1.bind fun ρ1 H1 M1 v d e1 j1 c1 g2=>⟨ρ1,δ,M1,d,ev.mono e1,j1,c1,g2.bind fun ρ2 H2 M2 σ2 δ2 e2 j2 ev2 g3=>g3.pure ρ2 H2 σ2 .refl j2 ev2⟩⟩⟩
def DX(i j:Nat)(fa:aa->DM (List D)):aa->DM Fl:=fun δ=>fa δ>>=fun l=>match l with
 |[v,w]=>pure (.nx ((δ.set i (some v)).set j (some w)))
 |_=>stuck
theorem oZ {i j:Nat}{x y:Str}{a b:Expr}{fa:aa->DM (List D)}{px py pt:Pos}{kt k2 pt2} (hc:X.calm=true) (hN:X.N.Nodup) (hi:X.N[i]?=some x) (hj:X.N[j]?=some y) (hij:i≠j)
  (hx:X.env.scope.names.lookup x=some .local) (hy:X.env.scope.names.lookup y=some .local) (ha:DA X E [a,b] fa)
  (hw:swappedStores [.Tuple [.Name x px,.Name y py] kt pt] (.Tuple [a,b] k2 pt2) X.env=pure (some [x,y]))
  (hs:swapsWithSole [.Tuple [.Name x px,.Name y py] kt pt] (.Tuple [a,b] k2 pt2) pos.line X.env=pure false:=by rfl) :
  DS X E (.Assign [.Tuple [.Name x px,.Name y py] kt pt] (.Tuple [a,b] k2 pt2) pos) (DX i j fa):=⟨PS.mono (ps_par hc hN hi hj hij hx hy ha.h.h hw hs) fun D σ H h=>by
 obtain⟨ρ,δ,M,ev,j,g1⟩:=h
 refine⟨ρ,δ,M,ev,j,bu.bind g1 fun ρ1 H1 M1 v d e1 j1 c1 g2=>?_⟩
 cases c1 with
 |nil=>obtain⟨r,e,_⟩:=g2;cases e
 | cons c1 c2=>cases c2 with
   |nil=>obtain⟨r,e,_⟩:=g2;cases e
   |cons c2 c3=>cases c3 with
     |nil=>exact⟨_,_,rfl,bu.pure (a:=.nx _) g2 ρ1 H1 _ .refl j1 (((ev.mono e1).set c1).set c2)⟩
     |cons _ _=>obtain⟨r,e,_⟩:=g2;cases e⟩
end
inductive Itn where
 |fix (l:List D) | dyn (n:Nat)
def Itn.next:Itn->Nat->Mo->Option (Option D)
 |.fix l,i,_=>some l[i]?
 |.dyn n,i,M=>match M[n]? with
   |some (.lst l)=>some l[i]?
   |_=>none
structure ItOk(mg:Str->Option Value)(ρ:Rh)(H:Hp)(Jt:It)(it:Itn):Prop where
 item:∀(i:Nat) ρ' H' M' d,Kp ρ H ρ' H'->J mg ρ' M' H'->it.next i M'=some (some d)->Jt.go i H'∧∀x H2,Jt.yld i H' x H2->Ext ρ' H' ρ' H2∧J mg ρ' M' H2∧Cv mg ρ' H2 x d
 stop:∀(i:Nat) ρ' H' M',Kp ρ H ρ' H'->J mg ρ' M' H'->it.next i M'=some none->Jt.stop i H'
def tI(mg:Str->Option Value)(E:XK)(fi:aa->DM Itn):TI:=fun σ H R=>tD mg E (ItOk mg) fi σ H R
structure DI(X:Cx)(E:XK)(tg it:Expr)(fi:aa->DM Itn):Prop where
 h:PI X tg it (tI X.mg E fi)
theorem PI.mono{X:Cx}{tg e:Expr}{t t':TI}(h:PI X tg e t)(f:∀σ H Q,t' σ H Q->t σ H Q):PI X tg e t':=fun pins s σ H Q I q=>h pins s σ H Q I (f σ H Q q)
theorem Dh{K:PySem.W.Frag}{mg:Str->Option Value}{ρ:Rh}{H:Hp}{a:Addr}{xs:List V}{ds:List D}(n:a∉ρ)(h:H a=some (.lst xs))(c:Cvs mg ρ H xs ds):ItOk mg ρ H (Itl K a) (.fix ds) where
 item:=fun i ρ' H' M' d e j q=>by
  have hq:ds[i]?=some d:=Option.some.inj q
  obtain⟨v,hv,cv⟩:=c.get hq
  have h':=(e.keep _ _ h n).2
  refine⟨⟨xs,v,SqL.of h',hv⟩,fun x H2 y=>?_⟩
  obtain⟨rfl,y⟩:=y
  have:=y xs (SqL.of h')
  rw[hv] at this;cases this
  exact⟨.refl,j,cv.kp e⟩
 stop:=fun i ρ' H' M' e j q=>by
  have hq:ds[i]?=none:=Option.some.inj q
  exact⟨xs,SqL.of (e.keep _ _ h n).2,by rw[c.len];exact List.getElem?_eq_none_iff.mp hq⟩
theorem Dj{K:PySem.W.Frag}{mg:Str->Option Value}{ρ:Rh}{H:Hp}{a:Addr}{xs:List V}{ds:List D}(n:a∉ρ)(h:H a=some (.tup xs))(c:Cvs mg ρ H xs ds):ItOk mg ρ H (Itt K a) (.fix ds) where
 item:=fun i ρ' H' M' d e j q=>by
  have hq:ds[i]?=some d:=Option.some.inj q
  obtain⟨v,hv,cv⟩:=c.get hq
  have h':=(e.keep _ _ h n).2
  refine⟨⟨xs,v,SqT.of h',hv⟩,fun x H2 y=>?_⟩
  obtain⟨rfl,y⟩:=y
  have:=y xs (SqT.of h')
  rw[hv] at this;cases this
  exact⟨.refl,j,cv.kp e⟩
 stop:=fun i ρ' H' M' e j q=>by
  have hq:ds[i]?=none:=Option.some.inj q
  exact⟨xs,SqT.of (e.keep _ _ h n).2,by rw[c.len];exact List.getElem?_eq_none_iff.mp hq⟩
theorem Dg {K:PySem.W.Frag}{mg:Str->Option Value}{ρ:Rh}{H:Hp}{a:Addr}{n:Nat} (h:ρ.st[n]?=some a):ItOk mg ρ H (Itl K a) (.dyn n) where
 item:=fun i ρ' H' M' d e j q=>by
  have h':=e.at h
  unfold Itn.next at q
  dsimp only at q
  split at q
  ·rename_i l hl
   obtain⟨xs,hx,c⟩:=j.obj n a _ h' hl
   have hq:l[i]?=some d:=Option.some.inj q
   obtain⟨v,hv,cv⟩:=c.get hq
   refine⟨⟨xs,v,SqL.of hx,hv⟩,fun x H2 y=>?_⟩
   obtain⟨rfl,y⟩:=y
   have:=y xs (SqL.of hx)
   rw[hv] at this;cases this
   exact⟨.refl,j,cv⟩
  ·cases q
 stop:=fun i ρ' H' M' e j q=>by
  have h':=e.at h
  unfold Itn.next at q
  dsimp only at q
  split at q
  ·rename_i l hl
   obtain⟨xs,hx,c⟩:=j.obj n a _ h' hl
   have hq:l[i]?=none:=Option.some.inj q
   exact⟨xs,SqL.of hx,by rw[c.len];exact List.getElem?_eq_none_iff.mp hq⟩
  ·cases q
def n6(lo:Int)(n:Nat):List D:=(List.range n).map fun i=>.int (lo+(i:Nat))
theorem uK{lo:Int}{n i:Nat}:(n6 lo n)[i]?=if i<n then some (.int (lo+(i:Nat))) else none:=by
 unfold n6
 rw[List.getElem?_map]
 by_cases h:i<n
 ·rw[if_pos h,List.getElem?_range h];rfl
 ·rw[if_neg h,List.getElem?_eq_none_iff.mpr (by simp;omega)];rfl
theorem Di {mg:Str->Option Value}{ρ:Rh}{H:Hp}{lo:Int}{n:Nat}:ItOk mg ρ H (Itr lo n) (.fix (n6 lo n)) where
 item:=fun i ρ' H' M' d e j q=>by
  have hq:(n6 lo n)[i]?=some d:=Option.some.inj q
  rw[uK] at hq
  split at hq
  ·rename_i h
   cases hq
   refine⟨h,fun x H2 y=>?_⟩
   obtain⟨rfl,rfl⟩:=y
   exact⟨.refl,j,.int _⟩
  ·cases hq
 stop:=fun i ρ' H' M' e j q=>by
  have hq:(n6 lo n)[i]?=none:=Option.some.inj q
  rw[uK] at hq
  split at hq
  ·cases hq
  ·rename_i h;exact Nat.not_lt.mp h
section
variable{X:Cx}{E:XK}{tg:Expr}
def vU(i:Int):Bool:=decide (-(2^62)≤i∧i<2^62)
def lN:List D->Option Itn
 |[.int j]=>if vU j then some (.fix (n6 0 j.toNat)) else none
 |_=>none
theorem iB {a:Expr}{fa:aa->DM (List D)}{p pos:Pos} (hg:Gl X "range") (hm:X.mg "range"=none) (ha:DA X E [a] fa) (hs:notStar a=true:=by rfl):DI X E tg (.Call (.Name "range" p) [a] [] pos) (fun δ=>fa δ >>= fun l=>opt (lN l)):=
 ⟨PI.mono (vL hg hm ha.h hs).h fun σ H R h=>by
  obtain⟨ρ,δ,M,ev,j,g1⟩:=h
  refine⟨ρ,δ,M,ev,j,g1.bind fun ρ1 H1 M1 x dx e1 j1 c1 g2=>?_⟩
  obtain⟨it,e,q⟩:=g2.opt
  unfold lN at e
  split at e
  ·split at e
   ·rename_i hk
    cases e
    cases c1 with | cons c1 c2=>
    cases c2;cases c1
    have hk:=of_decide_eq_true hk
    exact⟨_,rfl,hk.1,hk.2,q ρ1 H1 _ .refl j1 Di⟩
   ·cases e
  ·cases e⟩
def oK:D->Option Itn
 |.tup l=>some (.fix l)
 |_=>none
def rO:D->Mo->Option Itn
 |.lst l,_=>some (.fix l)
 |.ref n,M=>match M[n]? with
   |some (.lst _)=>some (.dyn n)
   |_=>none
 |_,_=>none
theorem fO{l:Expr}{fl:aa->DM D}(hl:DE X E l fl):DI X E tg l (fun δ=>fl δ>>=fun d=>opt (oK d)):=⟨PI.mono (pi_tup hl.h) fun σ H R h=>by
 obtain⟨ρ,δ,M,ev,j,g1⟩:=h
 refine⟨ρ,δ,M,ev,j,g1.bind fun ρ1 H1 M1 x dx e1 j1 c1 g2=>?_⟩
 obtain⟨it,e,q⟩:=g2.opt
 unfold oK at e
 split at e
 ·cases e
  cases c1 with | tup n a c=>
  exact⟨_,rfl,⟨_,SqT.of a⟩,q ρ1 H1 _ .refl j1 (Dj n a c)⟩
 ·cases e⟩
theorem jf {l:Expr}{fl:aa->DM D} (hl:DE X E l fl):DI X E tg l (fun δ=>fl δ >>= fun d=>rd (rO d)):=⟨PI.mono (pi_list hl.h) fun σ H R h=>by
 obtain⟨ρ,δ,M,ev,j,g1⟩:=h
 refine⟨ρ,δ,M,ev,j,g1.bind fun ρ1 H1 M1 x dx e1 j1 c1 g2=>?_⟩
 obtain⟨it,e,q⟩:=g2.rd
 unfold rO at e
 split at e
 ·cases e
  cases c1 with | lst n a c=>
  exact⟨_,rfl,⟨_,SqL.of a⟩,q ρ1 H1 _ .refl j1 (Dh n a c)⟩
 ·split at e
  ·rename_i l' hl'
   cases e
   cases c1 with | ref hn=>
   obtain⟨xs,hx,_⟩:=j1.obj _ _ _ hn hl'
   exact⟨_,rfl,⟨xs,SqL.of hx⟩,q ρ1 H1 _ .refl j1 (Dg hn)⟩
  ·cases e
 ·cases e⟩
end
def forL (tg:D->aa->DM aa) (fb:aa->DM Fl):List D->aa->DM Fl
 |[],δ=>pure (.nx δ)
 |d::l,δ=>tg d δ>>=fun δ1=>fb δ1>>=fun r=>match r with
   |.nx δ2=>forL tg fb l δ2
   |.ct δ2=>forL tg fb l δ2
   |.bk δ2=>pure (.nx δ2)
   |.rt d=>pure (.rt d)
def sG (tg:D->aa->DM aa) (fb:aa->DM Fl) (n:Nat):Nat->Nat->aa->DM Fl
 |0,_,_=>stuck
 | k + 1,i,δ=>rd (Itn.next (.dyn n) i) >>= fun o=>match o with
   |none=>pure (.nx δ)
   |some d=>tg d δ>>=fun δ1=>fb δ1>>=fun r=>match r with
     |.nx δ2=>sG tg fb n k (i+1) δ2
     |.ct δ2=>sG tg fb n k (i+1) δ2
     |.bk δ2=>pure (.nx δ2)
     |.rt d=>pure (.rt d)
def sE(N:Nat)(tg:D->aa->DM aa)(fb:aa->DM Fl):Itn->aa->DM Fl
 |.fix l=>forL tg fb l
 |.dyn n=>sG tg fb n N 0
theorem bu.rdb{mg:Str->Option Value}{E:XK}{D:Ends}{ρ:Rh}{H:Hp}{M:Mo}{γ:Type}{f:Mo->Option γ}{k:γ->DM Fl}(g:bu mg E D ρ H (L3.rd f>>=k) M):∃a,f M=some a∧bu mg E D ρ H (k a) M:=by
 obtain⟨r,e,p⟩:=g
 have e:DM.bind _ _ M=some r:=e
 unfold DM.bind L3.rd at e
 cases h:f M with
 |none=>rw[h] at e;cases e
 |some a=>rw[h] at e;exact⟨a,rfl,r,e,p⟩
theorem sI {X:Cx}{E:XK}{fg:D->aa->DM aa}{fb:aa->DM Fl}{D:Ends}{σ:L2.St}{H H':Hp}{ρ:Rh}{δ:aa}{M:Mo}{x:V}{d:L3.D}{N:L2.St->Hp->Prop}{again:aa->DM Fl}
  (ev:Ev X.mg ρ H σ δ) (e1:Ext ρ H ρ H') (j1:J X.mg ρ M H') (c1:Cv X.mg ρ H' x d) (ht:bu X.mg E D ρ H (fg d δ>>=fun δ1=>fb δ1>>=fun r=>match r with
    |.nx δ2=>again δ2
    |.ct δ2=>again δ2
    |.bk δ2=>pure (.nx δ2)
    |.rt d=>pure (.rt d)) M) (hN:∀ρ2 δ2 M2 σ2 H2,Ext ρ H ρ2 H2->Ev X.mg ρ2 H2 σ2 δ2->J X.mg ρ2 M2 H2->bu X.mg E D ρ2 H2 (again δ2) M2->N σ2 H2) :
  tG X.mg E fg x σ H' fun σ2 H2=>tS X.mg E fb { D with nx:=N,ct:=N,bk:=D.nx } σ2 H2:=by
 obtain⟨r,er,p⟩:=ht
 have ht':bu X.mg E D ρ H' _ M:=⟨r,er,p.mono e1⟩
 refine⟨ρ,δ,M,d,ev.mono e1,j1,c1,bu.bind ht' fun ρ2 H2 M2 σ2 δ2 e2 j2 ev2 g2=>⟨ρ2,δ2,M2,ev2,j2,g2.seq (fun δ' ρ3 H3 M3 σ3 e3 j3 ev3 g3=>?_) (fun δ' ρ3 H3 M3 σ3 e3 j3 ev3 g3=>?_) (fun δ' ρ3 H3 M3 σ3 e3 j3 ev3 g3=>?_) (fun d' ρ3 H3 M3 v e3 j3 c3 g3=>?_)⟩⟩
 ·exact hN ρ3 δ' M3 σ3 H3 ((e1.trans e2).trans e3) ev3 j3 g3
 ·exact bu.pure (a:=.nx δ') g3 ρ3 H3 σ3 .refl j3 ev3
 ·exact hN ρ3 δ' M3 σ3 H3 ((e1.trans e2).trans e3) ev3 j3 g3
 ·exact bu.pure (a:=.rt d') g3 ρ3 H3 v .refl j3 c3
theorem jh {X:Cx}{E:XK}{tg iter:Expr}{body:List Stmt}{fi:aa->DM Itn}{fg:D->aa->DM aa}{fb:aa->DM Fl}{pos:Pos} (N:Nat) (hp:PassesOwn (model X.prog X.w) X.A X.env X.xe) (hc:X.calm=true) (hi:DI X E tg iter fi) (hg:DG X E tg fg) (hb:DSs X E body fb)
  (hs:∀x,foldedSetIterable iter X.env x=pure x:=by intro _;rfl):DS X E (.For tg iter body [] pos) (fun δ=>fi δ>>=fun it=>sE N fg fb it δ):=⟨PS.mono (ps_for hp hc hi.h hg.h hb.h hs) fun D σ H h=>by
 obtain⟨ρ,δ,M,ev,j,g1⟩:=h
 refine⟨ρ,δ,M,ev,j,g1.bind fun ρ1 H1 M1 Jt it e1 j1 iok g2=>?_⟩
 cases it with
 | fix l=>
   refine⟨fun i m σ H=>∃ρ' δ' M',Ext ρ1 H1 ρ' H∧Ev X.mg ρ' H σ δ'∧J X.mg ρ' M' H∧m=(l.drop i).length∧bu X.mg E D ρ' H (forL fg fb (l.drop i) δ') M',⟨_,ρ1,δ,M1,.refl,ev.mono e1,j1,rfl,g2⟩,?_⟩
   rintro i m σ2 H2 ⟨ρ2,δ2,M2,e2,ev2,j2,rfl,g3⟩
   cases hd:l[i]? with
   |none=>
     have hl:l.drop i=[]:=List.drop_eq_nil_of_le (List.getElem?_eq_none_iff.mp hd)
     rw[hl] at g3
     exact .inl ⟨iok.stop i ρ2 H2 M2 e2.kp j2 (congrArg some hd),bu.pure (a:=.nx δ2) g3 ρ2 H2 σ2 .refl j2 ev2⟩
   |some d=>
     obtain⟨hi',hd'⟩:=List.getElem?_eq_some_iff.mp hd
     have hl:l.drop i=d::l.drop (i+1):=by rw[←hd'];exact List.drop_eq_getElem_cons hi'
     obtain⟨go,yl⟩:=iok.item i ρ2 H2 M2 d e2.kp j2 (congrArg some hd)
     rw[hl] at g3
     refine .inr ⟨go,fun σ' H'=>∃ρ' δ' M',Ext ρ1 H1 ρ' H'∧Ev X.mg ρ' H' σ' δ'∧J X.mg ρ' M' H'∧bu X.mg E D ρ' H' (forL fg fb (l.drop (i+1)) δ') M',fun σ' H' ⟨ρ',δ',M',a1,a2,a3,a4⟩=>⟨_,by rw[List.length_drop,List.length_drop];omega,ρ',δ',M',a1,a2,a3,rfl,a4⟩,fun x H' y=>?_⟩
     obtain⟨x1,x2,x3⟩:=yl x H' y
     exact sI ev2 x1 x2 x3 g3 fun ρ3 δ3 M3 σ3 H3 f1 f2 f3 f4=>⟨ρ3,δ3,M3,e2.trans f1,f2,f3,f4⟩
 | dyn n=>
   refine⟨fun i m σ H=>∃ρ' δ' M',Ext ρ1 H1 ρ' H∧Ev X.mg ρ' H σ δ'∧J X.mg ρ' M' H∧bu X.mg E D ρ' H (sG fg fb n m i δ') M',⟨N,ρ1,δ,M1,.refl,ev.mono e1,j1,g2⟩,?_⟩
   rintro i m σ2 H2 ⟨ρ2,δ2,M2,e2,ev2,j2,g3⟩
   cases m with
   |zero=>obtain⟨r,e,_⟩:=g3;cases e
   | succ m=>
     obtain⟨o,eo,g4⟩:=bu.rdb g3
     cases o with
     |none=>exact .inl ⟨iok.stop i ρ2 H2 M2 e2.kp j2 eo,bu.pure (a:=.nx δ2) g4 ρ2 H2 σ2 .refl j2 ev2⟩
     |some d=>
       obtain⟨go,yl⟩:=iok.item i ρ2 H2 M2 d e2.kp j2 eo
       refine .inr ⟨go,fun σ' H'=>∃ρ' δ' M',Ext ρ1 H1 ρ' H'∧Ev X.mg ρ' H' σ' δ'∧J X.mg ρ' M' H'∧bu X.mg E D ρ' H' (sG fg fb n m (i+1) δ') M',fun σ' H' z=>⟨m,Nat.lt_succ_self _,z⟩,fun x H' y=>?_⟩
       obtain⟨x1,x2,x3⟩:=yl x H' y
       exact sI ev2 x1 x2 x3 g4 fun ρ3 δ3 M3 σ3 H3 f1 f2 f3 f4=>⟨ρ3,δ3,M3,e2.trans f1,f2,f3,f4⟩⟩
def pN(mg:Str->Option Value)(F:List D->DM D):Sp:=fun vs H Q E=>∃ρ M ds,Cvs mg ρ H vs ds∧J mg ρ M H∧Go mg E (Cv mg) Q ρ H (F ds) M
structure DefD(P:Program)(w:World)(K:PySem.W.Frag)(mg:Str->Option Value)(base:Heap)(k:Nat)(x:Str)(ps:List Str)(F:List D->DM D):Prop where
 h:DefC P w K mg base k x ps (pN mg F)
def dU(n:Nat)(ds:List D):aa:=ds.map some++List.replicate (n-ds.length) none
def aP(p n:Nat)(fb:aa->DM Fl)(ds:List D):DM D:=if ds.length=p then fb (dU n ds)>>=fun r=>match r with
 |.nx _=>pure .non
 |.rt d=>pure d
 |_=>stuck else stuck
theorem nJ{mg:Str->Option Value}{ρ:Rh}{H:Hp}{N:List Str}{vs:List V}{ds:List D}(c:Cvs mg ρ H vs ds):Ev mg ρ H (L2.start N vs) (dU N.length ds):=by
 unfold L2.start dU
 refine⟨by simp[c.len],fun i d q=>?_⟩
 by_cases hi:i<ds.length
 ·rw[List.getElem?_append_left (by rw[List.length_map];exact hi),List.getElem?_map] at q
  obtain⟨d',h1,h2⟩:=Option.map_eq_some_iff.mp q
  cases h2
  obtain⟨v,hv,cv⟩:=c.get h1
  exact⟨v,by rw[List.getElem?_append_left (by rw[List.length_map,c.len];exact hi),List.getElem?_map,hv];rfl,cv⟩
 ·rw[List.getElem?_append_right (by rw[List.length_map];omega),List.getElem?_replicate] at q
  split at q<;>cases q
section
variable{P:Program}{w:World}{K:PySem.W.Frag}{mg:Str->Option Value}{base:Heap}{k:Nat}{x:Str}{N ps:List Str}{st:Stmt}
theorem bu.aP{E:XK}{Q:VK}{ρ:Rh}{H:Hp}{M:Mo}{n p:Nat}{fb:aa->DM Fl}{ds:List D}(g:Go mg E (Cv mg) Q ρ H (L3.aP p n fb ds) M):ds.length=p∧bu mg E { nx:=fun _ H'=>Q .non H',rt:=Q } ρ H (fb (dU n ds)) M:=by
 obtain⟨r,e,p⟩:=g
 unfold L3.aP at e
 split at e
 rotate_left
 ·cases e
 rename_i hl
 refine⟨hl,?_⟩
 have e:DM.bind _ _ M=some r:=e
 unfold DM.bind at e
 split at e
 ·cases e
 ·rename_i c M' em
  cases e
  exact⟨_,em,p⟩
 ·rename_i a M' em
  refine⟨_,em,?_⟩
  cases a with
  |nx δ'=>cases e;exact fun ρ1 H1 b x j c=>p ρ1 H1 .non x j .non
  |rt d=>cases e;exact fun ρ1 H1 b x j c=>p ρ1 H1 b x j c
  |bk δ'=>cases e
  |ct δ'=>cases e
theorem DefAt.okD {fb:aa->DM Fl} (D:DefAt K mg x st) (S:FnScope N ps (defScope st)) (hb:∀ (kV doc pm:Value) (an:Option Addr) (cdv ct:Value) (us:List Value),us.length=ps.length->bindArgs (PySem.W.fnOf x x (defArgs st) (defBody st) (defScope st) .none kV doc pm an cdv ct) ⟨us,[]⟩=pure (ps.zip us))
  (hbody:∀(f:Addr) (cdv:Value) (A:Around) (outer:List Env) (s:Shared) (H:Hp) (E:XK),Room k (A.deeper (envOfC x (defScope st) s.heap.objs.size f cdv))->
    DSs (bK P w K mg base N x (defScope st) f cdv A outer s H E) E (defBody st) fb):DefD P w K mg base (k+1) x ps (aP ps.length N.length fb):=⟨by
 refine D.okE S hb (fun vs H Q E h=>?_) fun f cdv A outer s H vs Q E hr h=>?_
 ·obtain⟨ρ,M,ds,c,j,g⟩:=h
  rw[c.len];exact (bu.aP g).1
 obtain⟨ρ,M,ds,c,j,g⟩:=h
 exact⟨_,(hbody f cdv A outer s H E hr).h,ρ,_,M,nJ c,j,(bu.aP g).2⟩⟩
end
mutual
inductive Fz(M:Mo)(k:Nat):D->D->Prop
 |non:Fz M k .non .non
 |bl (b:Bool):Fz M k (.bl b) (.bl b)
 |int (i:Int):Fz M k (.int i) (.int i)
 |str (x:Str):Fz M k (.str x) (.str x)
 |tup {l l':List D}:Fzs M k l l'->Fz M k (.tup l) (.tup l')
 |lst {l l':List D}:Fzs M k l l'->Fz M k (.lst l) (.lst l')
 |dic {ks:List Key}{l l':List D}:Fzs M k l l'->Fz M k (.dic ks l) (.dic ks l')
 |obj {c:Str}{ns:List Str}{l l':List D}:Fzs M k l l'->Fz M k (.obj c ns l) (.obj c ns l')
 |scr (ns:List Int):Fz M k (.scr ns) (.scr ns)
 |old {n:Nat}:n<k->Fz M k (.ref n) (.ref n)
 |new {n:Nat}{l l':List D}:k≤n->M[n]?=some (.lst l)->Fzs M k l l'->Fz M k (.ref n) (.lst l')
 |cls (c:Str):Fz M k (.cls c) (.cls c)
 |ty (c:String):Fz M k (.ty c) (.ty c)
 |exn (a:Addr):Fz M k (.exn a) (.exn a)
inductive Fzs(M:Mo)(k:Nat):List D->List D->Prop
 |nil:Fzs M k [] []
 |cons {d d':D}{l l':List D}:Fz M k d d'->Fzs M k l l'->Fzs M k (d::l) (d'::l')
end
def HN(M:Mo)(k:Nat):DO->DO->Prop
 |.lst l,.lst l'=>Fzs M k l l'
 |.dic ks l,.dic ks' l'=>ks=ks'∧Fzs M k l l'
 |.ins c ns l,.ins c' ns' l'=>c=c'∧ns=ns'∧Fzs M k l l'
 |_,_=>False
def GR(M':Mo)(k:Nat)(M1:Mo):Prop:=M1.length=k∧∀(n:Nat) o,M1[n]?=some o->∃o',M'[n]?=some o'∧HN M' k o' o
section
variable{mg:Str->Option Value}{ρ ρ':Rh}{H:Hp}{M:Mo}{k:Nat}
structure Sub(ρ ρ':Rh)(k:Nat):Prop where
 st:∃τ,ρ'.st=ρ.st++τ
 vo:ρ'.vo=ρ.vo
 len:ρ.st.length=k
theorem Sub.out(s:Sub ρ ρ' k){a:Addr}(h:a∉ρ'):a∉ρ:=fun z=>by
 obtain⟨τ,e⟩:=s.st
 rcases z with z | z
 ·exact h (.inl (by rw[e];exact List.mem_append_left _ z))
 ·exact h (.inr (by rw[s.vo];exact z))
mutual
theorem Cv.freeze (s:Sub ρ ρ' k) (j:J mg ρ' M H):∀ {d d':D}{v:V},Fz M k d d'->Cv mg ρ' H v d->Cv mg ρ H v d'
 |_,_,_,.non,c=>by cases c;exact .non
 |_,_,_,.bl b,c=>by cases c;exact .bl b
 |_,_,_,.int b,c=>by cases c;exact .int b
 |_,_,_,.str b,c=>by cases c;exact .str b
 |_,_,_,.tup f,c=>by cases c with | tup n h c=>exact .tup (s.out n) h (Cvs.freeze s j f c)
 |_,_,_,.lst f,c=>by cases c with | lst n h c=>exact .lst (s.out n) h (Cvs.freeze s j f c)
 |_,_,_,.dic f,c=>by cases c with | dic n h l c=>exact .dic (s.out n) h l (Cvs.freeze s j f c)
 |_,_,_,.obj f,c=>by cases c with | obj n m h l c=>exact .obj (s.out n) m h l (Cvs.freeze s j f c)
 |_,_,_,.scr ns,c=>by cases c with | scr n h=>exact .scr (s.out n) h
 |_,_,_,.old hn,c=>by
   cases c with | ref h=>
   obtain⟨τ,e⟩:=s.st
   rw[e,List.getElem?_append_left (by rw[s.len];exact hn)] at h
   exact .ref h
 | _,_,_,.new (n:=n) hn hm f,c=>by
   cases c with | ref h=>
   rename_i a
   obtain⟨xs,hx,c⟩:=j.obj _ _ _ h hm
   refine .lst (fun z=>?_) hx (Cvs.freeze s j f c)
   rcases z with z | z
   ·obtain⟨m,hm'⟩:=List.mem_iff_getElem?.mp z
    obtain⟨τ,e⟩:=s.st
    have hl:=(List.getElem?_eq_some_iff.mp hm').1
    have h2:ρ'.st[m]?=some a:=by rw[e,List.getElem?_append_left hl];exact hm'
    have:=j.inj h h2
    have:=s.len
    omega
   ·exact (j.vol a (by rw[s.vo];exact z)).1 (List.mem_of_getElem? h)
 |_,_,_,.cls b,c=>by cases c with | cls h=>exact .cls h
 |_,_,_,.ty b,c=>by cases c;exact .ty b
 |_,_,_,.exn b,c=>by cases c;exact .exn b
theorem Cvs.freeze(s:Sub ρ ρ' k)(j:J mg ρ' M H):∀{d d':List D}{v:List V},Fzs M k d d'->Cvs mg ρ' H v d->Cvs mg ρ H v d'
 |_,_,_,.nil,c=>by cases c;exact .nil
 |_,_,_,.cons f fs,c=>by cases c with | cons c cs=>exact .cons (Cv.freeze s j f c) (Cvs.freeze s j fs cs)
end
theorem J.freeze {M1:Mo} (s:Sub ρ ρ' k) (j:J mg ρ' M H) (hk:ρ.st.length=M1.length) (f:GR M k M1):J mg ρ M1 H:=by
 obtain⟨τ,e⟩:=s.st
 refine⟨hk,?_,fun n a o h1 h2=>?_,fun a ha=>?_⟩
 ·have:=j.nd
  rw[e] at this
  exact (List.nodup_append.mp this).1
 ·obtain ⟨o',h3,fo⟩:=f.2 n o h2
  have hl:=(List.getElem?_eq_some_iff.mp h1).1
  have c:=j.obj n a o' (by rw[e,List.getElem?_append_left hl];exact h1) h3
  cases o' with
  |lst l=>cases o with
    |lst l'=>obtain⟨xs,hx,c⟩:=c;exact⟨xs,hx,Cvs.freeze s j fo c⟩
    |dic _ _=>exact (show False from fo).elim
    |ins _ _ _=>exact (show False from fo).elim
  |dic ks l=>cases o with
    |lst l'=>exact (show False from fo).elim
    |dic ks' l'=>obtain⟨xs,hx,q,c⟩:=c;obtain⟨rfl,fo⟩:=fo;exact⟨xs,hx,q,Cvs.freeze s j fo c⟩
    |ins _ _ _=>exact (show False from fo).elim
  |ins c' ns l=>cases o with
    |lst l'=>exact (show False from fo).elim
    |dic _ _=>exact (show False from fo).elim
    |ins c'' ns' l'=>obtain⟨C,dx,xs,m,hx,q,c⟩:=c;obtain⟨rfl,rfl,fo⟩:=fo;exact⟨C,dx,xs,m,hx,q,Cvs.freeze s j fo c⟩
 ·obtain⟨x,xs,h⟩:=j.vol a (by rw[s.vo];exact ha)
  exact⟨fun z=>x (by rw[e];exact List.mem_append_left _ z),xs,h⟩
end
section
variable{X:Cx}{E:XK}{j k:Nat}{ps:List Str}{F:List D->DM D}{x:Str}{p pos:Pos}{e:Expr}{es:List Expr}{fs:aa->DM (List D)}
theorem aG(D:DefD X.prog X.w X.K X.mg X.base j x ps F)(hr:Room k X.A)(hx:Passes (cM X.prog X.w) X E)(ha:DA X E (e::es) fs)(hjk:j≤k:=by decide)(hg:Gl X x:=by rfl)(hdb:(x==("__debug__":Str))=false:=by decide)
  (he:notStar e=true:=by rfl) (hpl:(backTo pos (starEach es X.env)).any (·.1)=false:=by rfl) :
  DE X E (.Call (.Name x p) (e::es) [] pos) (fun δ=>fs δ>>=F):=⟨PE.mono (xT D.h hr hx ha.h hjk hg hdb he hpl) fun σ H Q h=>by
 obtain⟨ρ,δ,M,ev,j,g1⟩:=h
 refine⟨ρ,δ,M,ev,j,g1.bind fun ρ1 H1 M1 xs dxs e1 j1 c1 g2=>?_⟩
 rw[List.append_nil]
 exact⟨ρ1,M1,dxs,c1,j1,g2⟩⟩
def rC(mg:Str->Option Value)(E:XK)(g:List D->DM D):List V->Hp->VK->Prop:=fun vs H Q=>∃ρ M ds,J mg ρ M H∧Cvs mg ρ H vs ds∧Go mg E (Cv mg) Q ρ H (g ds) M
def CallD(X:Cx)(E:XK)(f:Value)(g:List D->DM D):Prop:=CallR X f (rC X.mg E g)
theorem aL{id:String}{g:List D->DM D}(hc:CallD X E (.builtin id) g)(hm:X.mg x=none)(ha:DA X E (e::es) fs)(hg:Gl X x:=by rfl)(hv:bootBuiltins x=some (.builtin id):=by decide +kernel)(hn:x≠"__name__":=by decide)(hdb:(x==("__debug__":Str))=false:=by decide)
  (he:notStar e=true:=by rfl) (hpl:(backTo pos (starEach es X.env)).any (·.1)=false:=by rfl) :
  DE X E (.Call (.Name x p) (e::es) [] pos) (fun δ=>fs δ>>=g):=⟨PE.mono (Ga hc hm ha.h hg hv hn hdb he hpl) fun σ H Q h=>by
 obtain⟨ρ,δ,M,ev,j,g1⟩:=h
 exact⟨ρ,δ,M,ev,j,g1.bind fun ρ1 H1 M1 xs dxs e1 j1 c1 g2=>⟨ρ1,M1,dxs,j1,c1,g2⟩⟩⟩
theorem iQ{T:String}{g:List D->DM D}(hc:CallD X E (.type T) g)(hm:X.mg x=none)(ha:DA X E (e::es) fs)(hg:Gl X x:=by rfl)(hv:bootBuiltins x=some (.type T):=by decide +kernel)(hn:x≠"__name__":=by decide)(hdb:(x==("__debug__":Str))=false:=by decide)
  (he:notStar e=true:=by rfl) (hpl:(backTo pos (starEach es X.env)).any (·.1)=false:=by rfl) :
  DE X E (.Call (.Name x p) (e::es) [] pos) (fun δ=>fs δ>>=g):=⟨PE.mono (Ge hc hm ha.h hg hv hn hdb he hpl) fun σ H Q h=>by
 obtain⟨ρ,δ,M,ev,j,g1⟩:=h
 exact⟨ρ,δ,M,ev,j,g1.bind fun ρ1 H1 M1 xs dxs e1 j1 c1 g2=>⟨ρ1,M1,dxs,j1,c1,g2⟩⟩⟩
theorem CallD.of{f:Value}{r:List V->Hp->VK->Prop}{g:List D->Mo->Option D}(hr:CallR X f r)
  (h:∀vs H Q ρ M ds d,J X.mg ρ M H->Cvs X.mg ρ H vs ds->g ds M=some d->(∀ρ' H' v,Ext ρ H ρ' H'->J X.mg ρ' M H'->Cv X.mg ρ' H' v d->Q v H')->r vs H Q):CallD X E f (fun l=>rd (g l)):=by
 intro pins s σ H vs us Q I rs q
 obtain⟨ρ,M,ds,j,c,go⟩:=q
 obtain⟨d,e,p⟩:=go.rd
 exact hr pins s σ H vs us Q I rs (h vs H Q ρ M ds d j c e p)
end
section
variable{X:Cx}{E:XK}{mg:Str->Option Value}{ρ:Rh}{H:Hp}{M:Mo}
theorem Cvs.one{vs:List V}{d:D}(c:Cvs mg ρ H vs [d]):∃v,vs=[v]∧Cv mg ρ H v d:=by
 cases c with
 |cons c c2=>cases c2;exact⟨_,rfl,c⟩
theorem Cvs.two {vs:List V}{d e:D} (c:Cvs mg ρ H vs [d,e]):∃ v w,vs=[v,w]∧Cv mg ρ H v d∧Cv mg ρ H w e:=by
 cases c with
 |cons c c2=>
   obtain⟨w,rfl,k⟩:=c2.one
   exact⟨_,_,rfl,c,k⟩
def jK:List D->Mo->Option D
 |[.tup l],_=>some (.int l.length)
 |[.scr l],_=>some (.int l.length)
 |[.str x],_=>if x.length≤sizeLine then some (.int x.length) else none
 |[d],M=>(aQ d M).map fun l=>.int l.length
 |_,_=>none
theorem call_lenD:CallD X E (.builtin "len") (fun l=>rd (jK l)):=CallD.of (call_len_seq.or call_len_str) fun vs H Q ρ M ds d j c e q=>by
 unfold jK at e
 split at e
 ·cases e
  obtain⟨v,rfl,k⟩:=c.one
  replace c:=k
  cases c with | tup n a c=>
  exact .inl ⟨_,_,rfl,.inr (SqT.of a),by rw[c.len];exact q ρ H _ .refl j (.int _)⟩
 ·cases e
  obtain⟨v,rfl,k⟩:=c.one
  replace c:=k
  cases c with | scr n a=>
  exact .inl ⟨_,_,rfl,.inl (.inl a),by rw[List.length_map];exact q ρ H _ .refl j (.int _)⟩
 ·split at e
  ·cases e
   obtain⟨v,rfl,k⟩:=c.one
   replace c:=k
   cases c
   exact .inr ⟨_,rfl,‹_›,q ρ H _ .refl j (.int _)⟩
  ·cases e
 ·obtain⟨l,h1,rfl⟩:=Option.map_eq_some_iff.mp e
  obtain⟨v,rfl,k⟩:=c.one
  replace c:=k
  obtain⟨a,xs,rfl,ha,c⟩:=cF j c h1
  exact .inl ⟨_,_,rfl,.inl (SqL.of ha),by rw[c.len];exact q ρ H _ .refl j (.int _)⟩
 ·cases e
def G8:List D->Mo->Option D
 |[.int i],_=>some (.int (if i<0 then -i else i))
 |_,_=>none
def vI:List D->Mo->Option D
 |[.int i,.int j],_=>some (.int (if j > i then j else i))
 |_,_=>none
def vJ:List D->Mo->Option D
 |[.int i,.int j],_=>some (.int (if j<i then j else i))
 |_,_=>none
theorem vf(hc:X.calm=true):CallD X E (.builtin "max") (fun l=>rd (vI l)):=CallD.of (call_max2 hc) fun vs H Q ρ M ds d j c e q=>by
 unfold vI at e
 split at e
 ·cases e
  obtain⟨v,w,rfl,k,c2⟩:=c.two
  replace c:=k
  cases c;cases c2
  exact⟨_,_,rfl,q ρ H _ .refl j (.int _)⟩
 ·cases e
theorem vg(hc:X.calm=true):CallD X E (.builtin "min") (fun l=>rd (vJ l)):=CallD.of (call_min2 hc) fun vs H Q ρ M ds d j c e q=>by
 unfold vJ at e
 split at e
 ·cases e
  obtain⟨v,w,rfl,k,c2⟩:=c.two
  replace c:=k
  cases c;cases c2
  exact⟨_,_,rfl,q ρ H _ .refl j (.int _)⟩
 ·cases e
def mH:D->Mo->Option (List D)
 |.tup l,_=>some l
 |d,M=>aQ d M
theorem tR(j:J mg ρ M H){x:V}{d:D}{l:List D}(c:Cv mg ρ H x d)(e:mH d M=some l):∃a xs,x=.ref a∧(H a=some (.lst xs)∨H a=some (.tup xs))∧Cvs mg ρ H xs l:=by
 unfold mH at e
 split at e
 ·cases e
  cases c with | tup n a c=>exact⟨_,_,rfl,.inr a,c⟩
 ·obtain⟨a,xs,rfl,ha,c⟩:=cF j c e
  exact⟨a,xs,rfl,.inl ha,c⟩
def intsOf:List D->Option (List Int)
 |[]=>some []
 |.int i::l=>(intsOf l).map (i::·)
 |_=>none
theorem ints_of:∀ {xs:List V}{l:List D}{ns:List Int},Cvs mg ρ H xs l->intsOf l=some ns->xs=ns.map V.int
 |_,_,_,.nil,e=>by cases e;rfl
 | _,_,_,.cons (d:=d) c cs,e=>by
   cases d with
   |int i=>
     obtain⟨ms,h1,rfl⟩:=Option.map_eq_some_iff.mp e
     cases c
     rw[ints_of cs h1];rfl
   |_=>cases e
theorem wM (hh:X.A.handled=none):CallR X (.builtin "sum") (fun vs H Q=>∃ (l:Addr) (ns:List Int),vs=[.ref l]∧(H l=some (.lst (ns.map V.int))∨H l=some (.tup (ns.map V.int)))∧Q (.int ns.sum) H):=by
 intro pins s σ H vs us Q I r h
 obtain⟨l,ns,rfl,hH,q⟩:=h
 obtain⟨u,rfl,ru⟩:=vals1 r
 cases ru
 have fin:∀(its:List Value),IntsAre its ns->∃xs,its.toArray=intItems xs∧preSum (numAt xs) xs.size=ns.sum:=fun its hi=>by
  obtain⟨xs,hx⟩:=hi.allInts.items
  have hn:numsOf its.toArray.toList=ns:=by rw[show its.toArray.toList=its from rfl,hi.numsOf]
  rw[hx] at hn
  rw[PySem.nums_intItems] at hn
  exact⟨xs,hx,by rw[PySem.preSum_eq,List.take_of_length_le (by simp),hn]⟩
 rcases hH with hH | hH
 ·obtain ⟨its,rv,p,hz⟩:=I.list (SqL.of (K:=X.K) hH)
  obtain⟨xs,hx,hs⟩:=fin its (intsAre_of rv)
  have hl:=p.isList
  rw[hx] at hl
  obtain⟨o,ho,hc,n,hd⟩:=id hl
  have hne:l≠s.heap.objs.size:=Nat.ne_of_lt (Heap.lt_size ho)
  have hsz:(intItems xs).size=xs.size:=by simp[intItems]
  have W:=(Walks.list (prog:=X.prog) (w:=X.w) (A:=X.A.in1) hh s.heap.objs.size l hne (intItems xs)).toS
  rw[hsz] at W
  refine call_sum_walkAnyS (wpAny_pyIter_list hl ?_)
  refine⟨s.heap.objs.size,_,_,_,_,_,_,numAt xs,rfl,W,⟨⟨_,Heap.get?_push_size _ rfl,rfl,rfl⟩,hl.at fun o e=>Heap.get?_push_of_some _ e⟩,fun b hb=>?_,fun i v hP=>intItems_at hP,fun s' t' hm=>?_⟩
  ·rcases List.mem_cons.mp hb with rfl | hb
   ·exact Heap.lt_size (Heap.get?_push_size _ rfl)
   ·obtain rfl:=List.mem_singleton.mp hb
    exact Heap.lt_size (Heap.get?_push_of_some _ ho)
  ·obtain⟨h',g',d',tk',os'⟩:=s'
   have e1:g'=s.gens:=hm.gens
   have e2:d'=s.drawn:=hm.drawn
   have e3:os'=s.os:=hm.os
   subst e1 e2 e3
   refine⟨.int ns.sum,H,I.kept (h':=h') (t':=tk') fun b o e=>hm.heap b o (fun hb=>absurd (Heap.lt_size e) ((List.mem_singleton.mp hb) ▸ Nat.lt_irrefl _)) (Heap.get?_push_of_some _ e),⟨t',?_⟩,q⟩
   rw[←hs]
 ·obtain⟨its,rv,p,hz⟩:=I.tuple (SqT.of (K:=X.K) hH)
  obtain⟨xs,hx,hs⟩:=fin its (intsAre_of rv)
  rw[hx] at p
  exact PySem.W.ktm_sumG hh (show s.heap.IsTuple l _ from p) fun h' tk t' hk=>⟨.int ns.sum,H,I.kept hk,⟨t',by rw[←hs]⟩,q⟩
def qw:List D->Mo->Option D
 |[d],M=>(mH d M).bind fun l=>(intsOf l).map fun ns=>.int ns.sum
 |_,_=>none
theorem dX(hh:X.A.handled=none):CallD X E (.builtin "sum") (fun l=>rd (qw l)):=CallD.of (wM hh) fun vs H Q ρ M ds d j c e q=>by
 unfold qw at e
 split at e
 ·obtain⟨l,h1,e1⟩:=Option.bind_eq_some_iff.mp e
  obtain⟨ns,h2,rfl⟩:=Option.map_eq_some_iff.mp e1
  obtain⟨v,rfl,k⟩:=c.one
  replace c:=k
  obtain⟨a,xs,rfl,ha,c⟩:=tR j c h1
  have:=ints_of c h2
  subst this
  exact⟨_,ns,rfl,ha,q ρ H _ .refl j (.int _)⟩
 ·cases e
def zX:D->Option Bool
 |.bl b=>some b
 |.int i=>some (i != 0)
 |_=>none
def eU:List D->Option (List Bool)
 |[]=>some []
 |d::l=>match zX d,eU l with
   |some b,some bs=>some (b::bs)
   |_,_=>none
theorem uW:∀ {xs:List V}{l:List D}{bs:List Bool},Cvs mg ρ H xs l->eU l=some bs->(∀ x∈xs,scS x=true)∧xs.map jY=bs
 |_,_,_,.nil,e=>by cases e;exact⟨(fun x hx=>nomatch hx),rfl⟩
 | _,_,_,.cons (d:=d) (ds:=ds) (vs:=vs) c cs,e=>by
   unfold eU at e
   split at e
   ·rename_i b bs h1 h2
    cases e
    obtain⟨a1,a2⟩:=uW cs h2
    cases c with
    |bl b'=>cases h1;exact⟨fun x hx=>by rcases List.mem_cons.mp hx with rfl | hx;rfl;exact a1 x hx,by rw[List.map_cons,a2];rfl⟩
    |int b'=>cases h1;exact⟨fun x hx=>by rcases List.mem_cons.mp hx with rfl | hx;rfl;exact a1 x hx,by rw[List.map_cons,a2];rfl⟩
    |_=>cases h1
   ·cases e
def iM:List D->Mo->Option D
 |[d],M=>(aQ d M).bind fun l=>(eU l).map fun bs=>.bl (bs.all id)
 |_,_=>none
def Cp:List D->Mo->Option D
 |[.tup l],_=>(eU l).map fun bs=>.bl (bs.any id)
 |_,_=>none
theorem fM(hh:X.A.handled=none):CallD X E (.builtin "all") (fun l=>rd (iM l)):=CallD.of (yR hh) fun vs H Q ρ M ds d j c e q=>by
 unfold iM at e
 split at e
 ·obtain⟨l,h1,e1⟩:=Option.bind_eq_some_iff.mp e
  obtain⟨ns,h2,rfl⟩:=Option.map_eq_some_iff.mp e1
  obtain⟨v,rfl,k⟩:=c.one
  replace c:=k
  obtain⟨a,xs,rfl,ha,c⟩:=cF j c h1
  obtain⟨t1,t2⟩:=uW c h2
  subst t2
  exact⟨_,xs,rfl,ha,t1,by have z:=q ρ H _ .refl j (.bl _);rw[List.all_map] at z;exact z⟩
 ·cases e
def jx:List D->Mo->Option D
 |[d],M=>(mH d M).map .tup
 |_,_=>none
theorem dJ:CallD X E (.type "tuple") (fun l=>rd (jx l)):=CallD.of call_tuple_of fun vs H Q ρ M ds d j c e q=>by
 unfold jx at e
 split at e
 ·obtain⟨l,h1,rfl⟩:=Option.map_eq_some_iff.mp e
  obtain⟨v,rfl,k⟩:=c.one
  replace c:=k
  unfold mH at h1
  split at h1
  ·cases h1
   cases c with | tup n a c=>
   exact⟨_,_,rfl,.inr ⟨SqT.of a,q ρ H _ .refl j (.tup n a c)⟩⟩
  ·obtain⟨a,xs,rfl,ha,c⟩:=cF j c h1
   exact⟨_,_,rfl,.inl ⟨SqL.of ha,fun p hp=>q ρ _ _ (.lay hp) (j.lay _ hp) (.tup (j.fresh hp) upd_same (c.mono (.lay hp)))⟩⟩
 ·cases e
def gj:List D->Mo->Option (List D)
 |[d],M=>mH d M
 |_,_=>none
theorem jD:CallD X E (.type "list") (fun l=>rd (fun M=>(gj l M).map .lst)):=CallD.of call_list_of fun vs H Q ρ M ds d j c e q=>by
 obtain⟨l,e1,rfl⟩:=Option.map_eq_some_iff.mp e
 unfold gj at e1
 split at e1
 ·obtain⟨v,rfl,k⟩:=c.one
  replace c:=k
  obtain⟨a,xs,rfl,ha,c⟩:=tR j c e1
  exact⟨_,_,rfl,ha.imp SqL.of SqT.of,fun p hp=>q ρ _ _ (.lay hp) (j.lay _ hp) (.lst (j.fresh hp) upd_same (c.mono (.lay hp)))⟩
 ·cases e1
theorem oR:CallD X E (.type "list") (fun l=>rd (gj l)>>=cH):=by
 intro pins s σ H vs us Q I rs q
 obtain⟨ρ,M,ds,j,c,go⟩:=q
 obtain⟨l,e1,g⟩:=Go.rdb go
 unfold gj at e1
 split at e1
 ·obtain⟨v,rfl,k⟩:=c.one
  replace c:=k
  obtain⟨a,xs,rfl,ha,c⟩:=tR j c e1
  exact call_list_of (X:=X) pins s σ H _ us Q I rs ⟨_,_,rfl,ha.imp SqL.of SqT.of,fun p hp=>(g.cH j c hp).2⟩
 ·cases e1
def lF(d:D):Option PyData:=match toPy d with
 |some p=>some p
 |none=>bD d
def eG:List D->Mo->Option D
 |[d],_=>(lF d).bind fun p=>if p.showable&&decide (p.depth≤60)&&decide (bB p≤sizeLine) then some (.str p.shown) else none
 |_,_=>none
theorem cO (hg:X.A.guards=some []) (hu:X.A.units + 64<cLine):CallD X E (.builtin "repr") (fun l=>rd (eG l)):=CallD.of (vh hg hu) fun vs H Q ρ M ds d j c e q=>by
 unfold eG at e
 split at e
 ·obtain ⟨p,h1,e1⟩:=Option.bind_eq_some_iff.mp e
  split at e1
  ·rename_i hk
   cases e1
   simp only[Bool.and_eq_true,decide_eq_true_eq] at hk
   obtain⟨v,rfl,k⟩:=c.one
   replace c:=k
   have key:∃f,RepF H f v p:=by
    unfold lF at h1
    split at h1
    ·rename_i h2
     cases h1;exact⟨true,c.repF h2⟩
    ·exact⟨false,c.repD h1⟩
   obtain⟨f,rp⟩:=key
   exact⟨f,_,p,rfl,rp,hk.1.1,hk.1.2,hk.2,q ρ H _ .refl j (.str _)⟩
  ·cases e1
 ·cases e
def tyOf:D->Mo->Option String
 |.non,_=>some "NoneType"
 |.bl _,_=>some "bool"
 |.int _,_=>some "int"
 |.str _,_=>some "str"
 |.tup _,_=>some "tuple"
 |.lst _,_=>some "list"
 |.scr _,_=>some "list"
 |.dic _ _,_=>some "dict"
 |.ref n,M=>match M[n]? with
   |some (.lst _)=>some "list"
   |some (.dic _ _)=>some "dict"
   |_=>none
 |_,_=>none
theorem wz {K:PySem.W.Frag} (j:J mg ρ M H) {x:V}{d:D}{t:String} (c:Cv mg ρ H x d) (e:tyOf d M=some t):TyOf K H x (.type t):=by
 cases c with
 |non=>cases e;exact .non
 |bl b=>cases e;exact .bl b
 |int b=>cases e;exact .int b
 |str b=>cases e;exact .str b
 |tup n h c=>cases e;exact .tup h
 |lst n h c=>cases e;exact .lst h
 |dic n h l c=>cases e;exact .dK h
 |scr n h=>
   cases e
   rcases h with h | ⟨o,h⟩
   ·exact .lst h
   ·exact .frz h
 | ref q=>
   unfold tyOf at e
   dsimp only at e
   split at e
   ·rename_i l hl
    cases e
    obtain⟨xs,h,_⟩:=j.obj _ _ _ q hl
    exact .lst h
   ·rename_i ks l hl
    cases e
    obtain⟨xs,h,_⟩:=j.obj _ _ _ q hl
    exact .dK h
   ·cases e
 |_=>cases e
def ww(t c:String):Bool:=t==c || (t=="bool"&&c=="int")
def tys:List String:=["NoneType", "bool", "int", "str", "tuple", "list", "dict"]
def eE:List D->Mo->Option D
 |[d,.ty c],M=>(tyOf d M).bind fun t=>if tys.contains c then some (.bl (ww t c)) else none
 |_,_=>none
theorem oG{d:D}{t:String}(e:tyOf d M=some t):t∈tys:=by
 unfold tyOf at e
 split at e<;>first | (cases e;decide) | (split at e<;>first | (cases e;decide) | cases e) | cases e
theorem Dl{K:PySem.W.Frag}:∀t∈tys,∀c∈tys,PySem.W.kitOne K (.type t) (.type c)=some (ww t c):=by
 intro t ht c hc
 simp only[tys,List.mem_cons,List.mem_nil_iff,or_false] at ht hc
 rcases ht with rfl | rfl | rfl | rfl | rfl | rfl | rfl<;>rcases hc with rfl | rfl | rfl | rfl | rfl | rfl | rfl<;>rfl
theorem bU:CallD X E (.builtin "isinstance") (fun l=>rd (eE l)):=CallD.of yS fun vs H Q ρ M ds d j c e q=>by
 unfold eE at e
 split at e
 ·obtain⟨t,h1,e1⟩:=Option.bind_eq_some_iff.mp e
  split at e1
  ·rename_i hk
   cases e1
   obtain⟨v,w,rfl,k,c2⟩:=c.two
   replace c:=k
   cases c2
   exact⟨_,_,_,_,rfl,wz j c h1,Dl _ (oG h1) _ (List.contains_iff_mem.mp hk),q ρ H _ .refl j (.bl _)⟩
  ·cases e1
 ·cases e
def Cj(X:Cx)(E:XK)(id:String)(g:D->List D->DM D):Prop:=MtR X id (fun x vs H Q=>∃ρ M d ds,J X.mg ρ M H∧Cv X.mg ρ H x d∧Cvs X.mg ρ H vs ds∧Go X.mg E (Cv X.mg) Q ρ H (g d ds) M)
def yQ:D->List D->DM D
 |.ref n,[v]=>fun M=>match M[n]? with
   |some (.lst l)=>if l.length<sizeLine then some (.ok .non,M.set n (.lst (l++[v]))) else none
   |_=>none
 |_,_=>stuck
theorem uA:Cj X E "list.append" yQ:=by
 intro pins s σ H x xs v us Q I rx rs q
 obtain⟨ρ,M,d,ds,j,cx,cs,r,e,p⟩:=q
 cases cx with
 | ref hn=>
   cases cs with
   |nil=>cases e
   | cons c cs=>cases cs with
     |cons _ _=>cases e
     | nil=>
       rename_i n a w dw
       have e:(match M[n]? with
        |some (.lst l)=>if l.length<sizeLine then some (R.ok .non,M.set n (.lst (l++[dw]))) else none
        |_=>none)=some r:=e
       split at e
       ·rename_i l hl
        split at e
        ·cases e
         obtain⟨xs,hx,cl⟩:=j.obj _ _ _ hn hl
         have x:Ext ρ H ρ (upd H a (.lst (xs++[w]))):=.upd (List.mem_of_getElem? hn)
         exact mt_append (X:=X) pins s σ H _ _ v us Q I rx rs ⟨_,_,_,rfl,rfl,hx,by rw[cl.len];assumption,p ρ _ .non x (j.upd hn ⟨_,upd_same,(cl.append (.cons c .nil)).mono x⟩) .non⟩
        ·cases e
       ·cases e
 |_=>cases e
def zO:D->List D->DM D
 | .ref n,[.int i]=>fun M=>match M[n]? with
   | some (.lst l)=>match ixN l.length i with
     |some k=>match l[k]? with
       |some d=>if decide (-(2^63)≤i∧i<2^63) then some (.ok d,M.set n (.lst (l.eraseIdx k))) else none
       |none=>none
     |none=>none
   |_=>none
 |_,_=>stuck
theorem Cvs.erase:∀{vs:List V}{ds:List D} (i:Nat),Cvs mg ρ H vs ds->Cvs mg ρ H (vs.eraseIdx i) (ds.eraseIdx i)
 |_,_,_,.nil=>.nil
 |_,_,0,.cons _ t=>t
 |_,_,i+1,.cons a t=>.cons a (Cvs.erase i t)
theorem Bl:Cj X E "list.pop" zO:=by
 intro pins s σ H x xs v us Q I rx rs q
 obtain⟨ρ,M,d,ds,j,cx,cs,r,e,p⟩:=q
 cases cx with
 | ref hn=>
   cases cs with
   |nil=>cases e
   | cons c cs=>cases cs with
     |cons _ _=>cases c<;>cases e
     | nil=>cases c with
       | int i=>
         rename_i n a
         have e:(match M[n]? with
          | some (.lst l)=>match ixN l.length i with
            |some k=>match l[k]? with
              |some d=>if decide (-(2^63)≤i∧i<2^63) then some (R.ok d,M.set n (.lst (l.eraseIdx k))) else none
              |none=>none
            |none=>none
          |_=>none)=some r:=e
         split at e
         ·rename_i l hl
          split at e
          ·rename_i k hk
           split at e
           ·rename_i d hd
            split at e
            ·rename_i hb
             have hb:=of_decide_eq_true hb
             cases e
             obtain⟨xs,hx,cl⟩:=j.obj _ _ _ hn hl
             obtain⟨w,hw,cw⟩:=cl.get hd
             have x:Ext ρ H ρ (upd H a (.lst (xs.eraseIdx k))):=.upd (List.mem_of_getElem? hn)
             exact mt_popAt (X:=X) pins s σ H _ _ v us Q I rx rs ⟨_,_,_,k,w,rfl,rfl,hx,hb.1,hb.2,by rw[cl.len];exact (ixN_seq hk).1,hw,p ρ _ w x (j.upd hn ⟨_,upd_same,(cl.erase k).mono x⟩) (cw.mono x)⟩
            ·cases e
           ·cases e
          ·cases e
         ·cases e
       |_=>cases e
 |_=>cases e
theorem vA {name id:String}{g:D->List D->DM D}{o e:Expr}{es:List Expr}{fo:aa->DM D}{fs:aa->DM (List D)}{apos cpos:Pos} (pa:PlainAttrs "list") (slot:Slot "list" name id) (hty:typeOf (.builtin id)=pure (.type "method_descriptor")) (hm:Cj X E id g) (ho:DE X E o fo) (ha:DA X E (e::es) fs)
  (hbase:attributeBase o name X.env (eval o X.env)=eval o X.env:=by rfl)
  (hfew:((backTo cpos (starEach (e::es) X.env)).all (fun x=>!x.1)&&(backToKw cpos (keywordEach [] X.env)).all (fun x=>x.1.isSome)
   &&decide ((e::es).length+([]:List Keyword).length+(if ([]:List Keyword).isEmpty then 0 else 1)<30))=true:=by rfl)
  (hline:(apos.endLine==cpos.line)=true:=by rfl) (hs:notStar e=true:=by rfl) (hplain:(backTo cpos (starEach es X.env)).any (·.1)=false:=by rfl) :
  DE X E (.Call (.Attribute o name apos) (e::es) [] cpos) (fun δ=>fo δ>>=fun x=>rd (fun M=>aQ x M)>>=fun _=>fs δ>>=fun xs=>g x xs):=⟨PE.mono (DY pa slot hty hm ho.h ha.h hbase hfew hline hs hplain) fun σ H Q h=>by
 obtain⟨ρ,δ,M,ev,j,g1⟩:=h
 refine⟨ρ,δ,M,ev,j,g1.bind fun ρ1 H1 M1 x dx e1 j1 c1 g2=>?_⟩
 obtain⟨l,hl,g3⟩:=Go.rdb g2
 obtain⟨a,xs,rfl,hx,cl⟩:=cF j1 c1 hl
 exact⟨.inl ⟨rfl,_,SqL.of hx⟩,ρ1,δ,M1,ev.mono e1,j1,g3.bind fun ρ2 H2 M2 ys dys e2 j2 c2 g4=>⟨ρ2,M2,dx,dys,j2,c1.mono e2,c2,g4⟩⟩⟩
end
structure ExtB(acc:Addr)(ρ:Rh)(H:Hp)(ρ':Rh)(H':Hp):Prop where
 pre:∃τ,ρ'.st=ρ.st++τ
 vo:ρ'.vo=ρ.vo
 new:∀a,a∈ρ'.st->a∉ρ.st->H a=none
 keep:∀a o,H a=some o->a∉ρ.st->a≠acc->H' a=some o
 na:acc∉ρ'.st
section
variable{acc:Addr}{ρ ρ1 ρ2:Rh}{H H1 H2:Hp}
theorem ExtB.trans (e:ExtB acc ρ H ρ1 H1) (f:ExtB acc ρ1 H1 ρ2 H2):ExtB acc ρ H ρ2 H2:=by
 have out:∀a o,H a=some o->a∉ρ.st->a∉ρ1.st:=fun a o h n z=>by have:=e.new a z n;rw[h] at this;cases this
 refine⟨?_,f.vo.trans e.vo,fun a h n=>?_,fun a o h n na=>f.keep a o (e.keep a o h n na) (out a o h n) na,f.na⟩
 ·obtain⟨τ,h1⟩:=e.pre
  obtain⟨υ,h2⟩:=f.pre
  exact⟨τ++υ,by rw[h2,h1,List.append_assoc]⟩
 ·by_cases z:a∈ρ1.st
  ·exact e.new a z n
  ·cases q:H a with
   |none=>rfl
   |some o=>
     have:=f.new a h z
     rw[e.keep a o q n (fun y=>f.na (y ▸ h))] at this;cases this
theorem Ext.b(e:Ext ρ H ρ1 H1)(na:acc∉ρ1.st):ExtB acc ρ H ρ1 H1:=⟨e.pre,e.vo,e.new,fun a o h n _=>e.keep a o h n,na⟩
theorem ExtB.kp(e:ExtB acc ρ H ρ1 H1)(h:acc∈ρ.vo):Kp ρ H ρ1 H1:=⟨e.pre,fun a o q n=>by
 have ne:a≠acc:=fun z=>n (z ▸ .inr h)
 have ns:a∉ρ.st:=fun z=>n (.inl z)
 refine⟨fun z=>?_,e.keep a o q ns ne⟩
 rcases z with z | z
 ·have:=e.new a z ns
  rw[q] at this;cases this
 ·rw[e.vo] at z;exact n (.inr z)⟩
theorem ExtB.refl(na:acc∉ρ.st):ExtB acc ρ H ρ H:=(Ext.refl).b na
theorem ExtB.grow{ys:List V}(na:acc∉ρ.st):ExtB acc ρ H ρ (upd H acc (.lst ys)):=⟨⟨[],by simp⟩,rfl,fun a h n=>absurd h n,fun a o h _ ne=>by rw[upd_ne ne];exact h,na⟩
end
structure Cst(X:Cx)(pins:List (Addr×Obj))(acc:Addr)(ρ0:Rh)(H0:Hp)(δ:aa)(l:List D)(M:Mo)(fp:List Addr)(s:Shared):Prop where
 ex:∃σ H ρ ys,Inv X pins σ H s∧ExtB acc ρ0 H0 ρ H∧J X.mg ρ M H∧Ev X.mg ρ H σ δ∧H acc=some (.lst ys)∧Cvs X.mg ρ H ys l∧∀b∈fp,H b=none
def bA(fg:D->aa->DM aa)(ft:aa->DM Bool)(fb:aa->List D->DM (aa×List D)):List D->aa->List D->DM (aa×List D)
 |[],δ,l=>pure (δ,l)
 |d::ds,δ,l=>fg d δ>>=fun δ1=>ft δ1>>=fun b=>(if b then fb δ1 l else pure (δ1,l))>>=fun p=>bA fg ft fb ds p.1 p.2
def gk (fg:D->aa->DM aa) (ft:aa->DM Bool) (fb:aa->List D->DM (aa×List D)) (n:Nat):Nat->Nat->aa->List D->DM (aa×List D)
 |0,_,_,_=>stuck
 |k+1,i,δ,l=>rd (Itn.next (.dyn n) i)>>=fun o=>match o with
   |none=>pure (δ,l)
   |some d=>fg d δ>>=fun δ1=>ft δ1>>=fun b=>(if b then fb δ1 l else pure (δ1,l))>>=fun p=>gk fg ft fb n k (i+1) p.1 p.2
def cI(fg:D->aa->DM aa)(ft:aa->DM Bool)(fb:aa->List D->DM (aa×List D)):Itn->aa->List D->DM (aa×List D)
 |.fix ds,δ,l=>bA fg ft fb ds δ l
 |.dyn n,δ,l=>rd (fun M=>aQ (.ref n) M)>>=fun m=>gk fg ft fb n (m.length+1) 0 δ l
def bR(fe:aa->DM D)(δ:aa)(l:List D):DM (aa×List D):=fe δ>>=fun d=>if l.length<sizeLine then pure (δ,l++[d]) else stuck
def HQ(X:Cx)(ifs:List Expr)(t:TT):Prop:=∀(pins:List (Addr×Obj)) (s:Shared) (σ:L2.St) (H:Hp) (Q:Bool->Hp->Prop),Inv X pins σ H s->t σ H Q->wpAny (model X.prog X.w) X.A (qx ifs X.env) (TP X pins σ Q) X.xe s
structure DTs(X:Cx)(E:XK)(ifs:List Expr)(f:aa->DM Bool):Prop where
 h:HQ X ifs (tD X.mg E Bv f)
theorem pW{X:Cx}{E:XK}:DTs X E [] (fun _=>pure true):=⟨fun pins s σ H Q I h=>by
 obtain⟨ρ,δ,M,ev,j,g⟩:=h
 exact wpAny_pure ⟨H,I,g.pure ρ H true .refl j rfl⟩⟩
theorem ur{X:Cx}{E:XK}{c:Expr}{f:aa->DM Bool}(hc:DT X E c f):DTs X E [c] f:=⟨fun pins s σ H Q I h=>wpAny_tests_one (hc.h pins s σ H Q I h)⟩
theorem DM.bind_ok{α β:Type}{m:DM α}{k:α->DM β}{M M':Mo}{b:β}(h:(m>>=k) M=some (.ok b,M')):∃a M1,m M=some (.ok a,M1)∧k a M1=some (.ok b,M'):=by
 have h:DM.bind m k M=some (.ok b,M'):=h
 unfold DM.bind at h
 split at h
 ·cases h
 ·cases h
 ·rename_i a M1 e
  exact⟨a,M1,e,h⟩
def BodyOk(X:Cx)(acc:Addr)(W:(Shared->Prop)->Shared->Prop)(fb:aa->List D->DM (aa×List D)):Prop:=
 ∀pins ρ0 H0 δ l M s δ' l' M',acc∈ρ0.vo->Cst X pins acc ρ0 H0 δ l M [] s->fb δ l M=some (.ok (δ',l'),M')->W (fun s'=>Cst X pins acc ρ0 H0 δ' l' M' [] s') s
theorem Cst.unpin{X:Cx}{pins pl:List (Addr×Obj)}{acc:Addr}{ρ0:Rh}{H0:Hp}{δ:aa}{l:List D}{M:Mo}{s:Shared}{fp:List Addr}(c:Cst X (pins++pl) acc ρ0 H0 δ l M [] s)(h:∀b∈fp,∃o,(b,o)∈pl) :
  Cst X pins acc ρ0 H0 δ l M fp s∧∀p∈pl,s.heap.get? p.1=some p.2:=by
 obtain⟨σ,H,ρ,ys,I,x,j,ev,ha,cl,_⟩:=c.ex
 refine⟨⟨σ,H,ρ,ys,I.unpinned,x,j,ev,ha,cl,fun b hb=>?_⟩,fun p hp=>(I.pin p (List.mem_append_right _ (List.mem_append_right _ hp))).1⟩
 obtain⟨o,ho⟩:=h b hb
 exact (I.pin (b,o) (List.mem_append_right _ (List.mem_append_right _ ho))).2.1
def qH(fg:D->aa->DM aa)(ft:aa->DM Bool)(fb:aa->List D->DM (aa×List D))(δf:aa)(lf:List D)(Mf:Mo):Itn->Nat->Nat->aa->List D->Mo->Prop
 |.fix ds,n,i,δ,l,M=>n=ds.length-i∧bA fg ft fb (ds.drop i) δ l M=some (.ok (δf,lf),Mf)
 |.dyn a,n,i,δ,l,M=>gk fg ft fb a n i δ l M=some (.ok (δf,lf),Mf)
theorem qH.step {fg:D->aa->DM aa}{ft:aa->DM Bool}{fb:aa->List D->DM (aa×List D)}{δf δ:aa}{lf l:List D}{Mf M:Mo}{it:Itn}{n i:Nat} (h:qH fg ft fb δf lf Mf it n i δ l M) :
  (it.next i M=some none∧δ=δf∧l=lf∧M=Mf)∨∃d δ1 M1 b M2 δ3 l3 M3 m,it.next i M=some (some d)∧fg d δ M=some (.ok δ1,M1)∧ft δ1 M1=some (.ok b,M2)∧(if b then fb δ1 l else pure (δ1,l)) M2=some (.ok (δ3,l3),M3)∧m<n∧qH fg ft fb δf lf Mf it m (i+1) δ3 l3 M3:=by
 cases it with
 | fix ds=>
   obtain⟨rfl,h⟩:=h
   cases hd:ds[i]? with
   |none=>
     rw[List.drop_eq_nil_of_le (List.getElem?_eq_none_iff.mp hd)] at h
     cases h
     exact .inl ⟨congrArg some hd,rfl,rfl,rfl⟩
   |some d=>
     obtain⟨hi',hd'⟩:=List.getElem?_eq_some_iff.mp hd
     have hl:ds.drop i=d::ds.drop (i+1):=by rw[←hd'];exact List.drop_eq_getElem_cons hi'
     rw[hl] at h
     obtain⟨δ1,M1,e1,h1⟩:=DM.bind_ok h
     obtain⟨b,M2,e2,h2⟩:=DM.bind_ok h1
     obtain⟨⟨δ3,l3⟩,M3,e3,h3⟩:=DM.bind_ok h2
     exact .inr ⟨d,δ1,M1,b,M2,δ3,l3,M3,ds.length-(i+1),congrArg some hd,e1,e2,e3,by omega,rfl,h3⟩
 | dyn a=>
   cases n with
   |zero=>cases h
   | succ n=>
     obtain⟨o,M0,e0,h⟩:=DM.bind_ok h
     obtain⟨o',q,z⟩:=Option.map_eq_some_iff.mp e0
     cases z
     cases o with
     |none=>cases h;exact .inl ⟨q,rfl,rfl,rfl⟩
     |some d=>
       obtain⟨δ1,M1,e1,h1⟩:=DM.bind_ok h
       obtain⟨b,M2,e2,h2⟩:=DM.bind_ok h1
       obtain⟨⟨δ3,l3⟩,M3,e3,h3⟩:=DM.bind_ok h2
       exact .inr ⟨d,δ1,M1,b,M2,δ3,l3,M3,n,q,e1,e2,e3,Nat.lt_succ_self _,h3⟩
theorem qH.start {fg:D->aa->DM aa}{ft:aa->DM Bool}{fb:aa->List D->DM (aa×List D)}{δf δ:aa}{lf l:List D}{Mf M:Mo}{it:Itn} (h:cI fg ft fb it δ l M=some (.ok (δf,lf),Mf)):∃ n,qH fg ft fb δf lf Mf it n 0 δ l M:=by
 cases it with
 |fix ds=>exact⟨_,rfl,h⟩
 |dyn a=>
   obtain⟨m,M0,e0,h⟩:=DM.bind_ok h
   obtain⟨m',q,z⟩:=Option.map_eq_some_iff.mp e0
   cases z
   exact⟨_,h⟩
theorem xH {X:Cx} (hc:X.calm=true) (hxe:X.xe=fun _ _=>False) {elt:Expr}{gens:List Comprehension}{scope:Scope}{pos:Pos}{depth:Nat}{g:Comprehension}{bodyK:Sem Fin->Sem Fin}{W:(Shared->Prop)->Shared->Prop}{it acc:Addr}
  (hturn:compTurn (.ListComp elt gens scope pos) depth (.ref it) (.ref acc) X.env=turnOf g bodyK (.compLoop (.ListComp elt gens scope pos) depth (.ref it) (.ref acc) X.env) (.ref it) X.env) (hW:oH X.prog X.w X.A bodyK W) (hmono:∀P P' s,(∀s,P s->P' s)->W P s->W P' s)
  {fg:D->aa->DM aa}{ft:aa->DM Bool}{fb:aa->List D->DM (aa×List D)} (hg:DG X E0 g.target fg) (ht:DTs X E0 g.ifs ft) (hb:BodyOk X acc W fb)
  {Jt:It}{fp:List Addr}{tn:Nat->Heap->Prop} (T:Turn X.prog X.w X.K g.target Jt fp it tn) {itn:Itn}{ρi ρ0:Rh}{Hi H0:Hp} (iok:ItOk X.mg ρi Hi Jt itn) (hacc:acc∈ρ0.vo) (kp0:Kp ρi Hi ρ0 H0) {pins:List (Addr×Obj)}
  (fok:∀H',(∀b∈fp,H' b=none)->∀b∈fp,FpOk X pins H' b) {δ:aa}{l:List D}{M:Mo}{s:Shared} (st:Cst X pins acc ρ0 H0 δ l M fp s) (htn:tn 0 s.heap) {δf:aa}{lf:List D}{Mf:Mo} (hrun:cI fg ft fb itn δ l M=some (.ok (δf,lf),Mf))
  {R:Result->Shared->Prop} (hR:∀s',Cst X pins acc ρ0 H0 δf lf Mf fp s'->R (.ok .next) s') :
  codeAny (model X.prog X.w) X.A (.compLoop (.ListComp elt gens scope pos) depth (.ref it) (.ref acc) X.env) R s:=by
 obtain⟨n0,rem0⟩:=qH.start hrun
 refine zA (fun n s=>∃i δ l M,qH fg ft fb δf lf Mf itn n i δ l M∧Cst X pins acc ρ0 H0 δ l M fp s∧tn i s.heap) hturn hW ?_ hmono n0 ⟨0,δ,l,M,rem0,st,htn⟩
 rintro n s ⟨i,δ,l,M,rem,st,htn⟩
 obtain⟨σ,H,ρ,ys,I,x,j,ev,ha,cl,fr⟩:=st.ex
 have kp:Kp ρi Hi ρ H:=kp0.trans (x.kp hacc)
 rcases rem.step with ⟨hd,rfl,rfl,rfl⟩ | ⟨d,δ1,M1,b,M2,δ3,l3,M3,m,hd,e1,e2,e3,hm,rem3⟩
 ·refine wpAny_mono (T.done X rfl rfl rfl hc i pins s σ H _ I (fok H fr) htn (iok.stop i ρ H _ kp j hd)) (fun r s1 h1=>?_) fun _ _ z=>z
  obtain⟨rfl,I1⟩:=h1
  exact hR s1 ⟨σ,H,ρ,ys,I1,x,j,ev,ha,cl,fr⟩
 ·obtain ⟨go,yl⟩:=iok.item i ρ H M d kp j hd
  refine wpAny_mono (T.item X rfl rfl rfl hc i pins s σ H (fun _ _=>False) I (fok H fr) htn go) (fun r s1 h1=>?_) fun _ _ z=>z
  obtain⟨u,rfl,h1⟩:=h1
  refine wpAny_mono h1 (fun _ s2 h2=>?_) fun _ _ z=>z
  obtain⟨xv,H5,I5,r5,y5,tn5,fr5⟩:=h2
  obtain⟨x5,j5,c5⟩:=yl xv H5 y5
  have I5':=I5.pinned (fok H5 fr5) (T.obj _ _ tn5)
  refine wpAny_mono (hg.h _ s2 σ H5 xv u (fun σ6 H6=>∃ρ6,Ext ρ H5 ρ6 H6∧J X.mg ρ6 M1 H6∧Ev X.mg ρ6 H6 σ6 δ1) I5' r5 ⟨ρ,δ,M,d,ev.mono x5,j5,c5,_,e1,fun ρ6 H6 σ6 a1 a2 a3=>⟨ρ6,a1,a2,a3⟩⟩) (fun _ s3 h3=>?_) fun _ _ z=>by rw[hxe] at z;exact z
  obtain⟨σ6,H6,I6,ρ6,x6,j6,ev6⟩:=h3
  refine wpAny_mono (ht.h _ s3 σ6 H6 (fun b' H7=>b'=b∧∃ρ7,Ext ρ6 H6 ρ7 H7∧J X.mg ρ7 M2 H7) I6 ⟨ρ6,δ1,M1,ev6,j6,_,e2,fun ρ7 H7 b' a1 a2 a3=>⟨a3,ρ7,a1,a2⟩⟩) (fun ok s4 h4=>?_) fun _ _ z=>by rw[hxe] at z;exact z
  obtain⟨H7,I7,rfl,ρ7,x7,j7⟩:=h4
  have nacc:acc∉ρ.st:=x.na
  have na6:acc∉ρ6.st:=fun z=>by
   have h5:=x5.keep acc _ ha nacc
   have:=x6.new acc z nacc
   rw[h5] at this;cases this
  have ha5:=x5.keep acc _ ha nacc
  have ha6:=x6.keep acc _ ha5 nacc
  have na7:acc∉ρ7.st:=fun z=>by
   have:=x7.new acc z na6
   rw[ha6] at this;cases this
  have ha7:=x7.keep acc _ ha6 na6
  have xb:ExtB acc ρ0 H0 ρ7 H7:=((x.trans (x5.b nacc)).trans (x6.b na6)).trans (x7.b na7)
  have ct:Cst X (pins++pinsAt fp s2.heap) acc ρ0 H0 δ1 l M2 [] s4:=⟨σ6,H7,ρ7,ys,I7,xb,j7,ev6.mono x7,ha7,((cl.mono x5).mono x6).mono x7,fun b hb=>nomatch hb⟩
  have fin:∀s5,Cst X (pins++pinsAt fp s2.heap) acc ρ0 H0 δ3 l3 M3 [] s5->∃m,m<n∧∃i δ l M,qH fg ft fb δf lf Mf itn m i δ l M∧Cst X pins acc ρ0 H0 δ l M fp s5∧tn i s5.heap:=fun s5 c5=>by
   obtain⟨c6,pp⟩:=c5.unpin (fp:=fp) fun b hb=>by
    obtain⟨o,eo,_⟩:=T.obj _ _ tn5 b hb
    exact⟨o,mem_pinsAt hb eo⟩
   exact⟨m,hm,i+1,δ3,l3,M3,rem3,c6,T.keep _ _ _ tn5 fun b hb o eo=>pp (b,o) (mem_pinsAt hb eo)⟩
  cases ok with
  |true=>exact iteT (hmono _ _ _ fin (hb _ ρ0 H0 δ1 l M2 s4 δ3 l3 M3 hacc ct e3))
  |false=>
    cases e3
    exact iteF (fin s4 ct)
theorem uv{X:Cx}(hxe:X.xe=fun _ _=>False){elt:Expr}{fe:aa->DM D}{acc:Addr}(he:DE X E0 elt fe) :
  BodyOk X acc (fun P s=>wpAny (model X.prog X.w) X.A (eval elt X.env) (fun x s1=>wpAny (model X.prog X.w) X.A (call (.builtin "list.append") [.ref acc,x]) (fun _ s2=>P s2) (fun _ _=>False) s1) (fun _ _=>False) s) (bR fe):=by
 intro pins ρ0 H0 δ l M s δ' l' M' hacc ct e
 obtain⟨d,M1,e1,e2⟩:=DM.bind_ok e
 obtain⟨σ,H,ρ,ys,I,x,j,ev,ha,cl,_⟩:=ct.ex
 split at e2
 rotate_left
 ·cases e2
 rename_i hz
 cases e2
 refine wpAny_mono (he.h pins s σ H (fun v H1=>∃ρ1,Ext ρ H ρ1 H1∧J X.mg ρ1 M' H1∧Cv X.mg ρ1 H1 v d) I ⟨ρ,δ,M,ev,j,_,e1,fun ρ1 H1 v a1 a2 a3=>⟨ρ1,a1,a2,a3⟩⟩) (fun u s1 h1=>?_) fun _ _ z=>by rw[hxe] at z;exact z
 obtain⟨v,H1,I1,rv,ρ1,x1,j1,c1⟩:=h1
 have nacc:acc∉ρ.st:=x.na
 have ha1:=x1.keep acc _ ha nacc
 have na1:acc∉ρ1.st:=fun z=>by
  have:=x1.new acc z nacc
  rw[ha] at this;cases this
 have hv1:acc∈ρ1.vo:=by rw[x1.vo,x.vo];exact hacc
 refine wpAny_mono (mt_append (X:=X) pins s1 σ H1 (.ref acc) [v] (.ref acc) [u] (fun _ H'=>H'=upd H1 acc (.lst (ys++[v]))) I1 rfl (.cons rv .nil) ⟨_,ys,v,rfl,rfl,ha1,by rw[cl.len];exact hz,rfl⟩) (fun _ s2 h2=>?_) fun _ _ z=>by rw[hxe] at z;exact z
 obtain⟨_,H2,I2,_,rfl⟩:=h2
 exact⟨σ,_,ρ1,ys++[v],I2,(x.trans (x1.b na1)).trans (.grow na1),j1.grow hv1,(ev.mono x1).kp ((ExtB.grow na1).kp hv1),upd_same,((cl.mono x1).append (.cons c1 .nil)).hold hv1,fun b hb=>nomatch hb⟩
def cN{α:Type}(m:DM α):DM α:=fun M=>match m M with
 |some (.ok a,M')=>some (.ok a,M')
 |_=>none
theorem jm{α:Type}{m:DM α}{M:Mo}{r:R α×Mo}(h:cN m M=some r):∃a M',m M=some (.ok a,M')∧r=(.ok a,M'):=by
 unfold cN at h
 split at h
 ·rename_i a M' e
  cases h
  exact⟨a,M',e,rfl⟩
 ·cases h
def cJ(js:List Nat)(δ:aa):aa:=js.map fun j=>(δ[j]?).getD none
def aZ(k:Nat)(js:List Nat)(δ:aa):aa:=List.replicate k none++cJ js δ
theorem uw {mg:Str->Option Value}{ρ:Rh}{H:Hp}{σ:L2.St}{δ:aa} (ev:Ev mg ρ H σ δ) (k:Nat) (js:List Nat):Ev mg ρ H (List.replicate k none++pick js σ) (aZ k js δ):=by
 unfold aZ pick cJ
 refine⟨by simp,fun i d q=>?_⟩
 by_cases hi:i<k
 ·rw[List.getElem?_append_left (by rw[List.length_replicate];exact hi),List.getElem?_replicate] at q
  split at q<;>cases q
 ·rw [List.getElem?_append_right (by rw [List.length_replicate];omega),List.length_replicate,List.getElem?_map] at q ⊢
  cases hj:js[i-k]? with
  |none=>rw[hj] at q;cases q
  | some j=>
    rw[hj] at q
    have q:(δ[j]?).getD none=some d:=Option.some.inj q
    have q':δ[j]?=some (some d):=by
     cases z:δ[j]? with
     |none=>rw[z] at q;cases q
     |some o=>rw[z] at q;exact congrArg some q
    obtain⟨v,h1,h2⟩:=ev.val j d q'
    exact⟨v,by show some ((σ[j]?).getD none)=_;rw[h1];rfl,h2⟩
theorem jJ{ρ:Rh}{H:Hp}{p:Addr}{o:HO}(hp:H p=none):Kp ρ H (ρ.hold p) (upd H p o):=⟨⟨[],by show ρ.st=_;simp⟩,fun a u h n=>⟨Rh.nhold n (ne_of_none h hp),by rw[upd_ne (ne_of_none h hp)];exact h⟩⟩
inductive Out where
 |val | sto
def Out.run:Out->List D->DM D
 |.val,l=>pure (.lst l)
 |.sto,l=>fun M=>some (.ok (.ref M.length),M++[.lst l])
theorem Out.fin {mg:Str->Option Value}{E:XK}{Q:VK}{ρ1 ρ4:Rh}{H2 H4:Hp}{acc:Addr}{M:Mo}{ys:List V}{l:List D} (o:Out) (hf:H2 acc=none) (hn:acc∉ρ1) (x:ExtB acc (ρ1.hold acc) (upd H2 acc (.lst [])) ρ4 H4) (j:J mg ρ4 M H4) (ha:H4 acc=some (.lst ys)) (c:Cvs mg ρ4 H4 ys l)
  (g:Go mg E (Cv mg) Q ρ1 H2 (o.run l) M):Q (.ref acc) H4:=by
 have hv:ρ4.vo=acc::ρ1.vo:=x.vo
 have na:acc∉ρ1.vo:=fun z=>hn (.inr z)
 have nw:∀a,a∈ρ4.st->a∉ρ1.st->H2 a=none:=fun a h n=>by
  have:=x.new a h n
  by_cases z:a=acc
  ·rw[z,upd_same] at this;cases this
  ·rw[upd_ne z] at this;exact this
 have kp:∀a o,H2 a=some o->a∉ρ1.st->H4 a=some o:=fun a o h n=>x.keep a o (by rw[upd_ne (ne_of_none h hf)];exact h) n (ne_of_none h hf)
 cases o with
 | val=>
   have e:Ext ρ1 H2 ⟨ρ4.st,ρ1.vo⟩ H4:=⟨x.pre,rfl,nw,kp⟩
   have jd:J mg ⟨ρ4.st,ρ1.vo⟩ M H4:=J.done (ρ:=ρ1) j hv
   have cd:Cvs mg ⟨ρ4.st,ρ1.vo⟩ H4 ys l:=Cvs.less (ρ:=ρ4) (ρ1:=⟨ρ4.st,ρ1.vo⟩) rfl (fun a h=>by rw[hv];exact .tail _ h) c
   exact Go.pure (a:=D.lst l) g ⟨ρ4.st,ρ1.vo⟩ H4 (.ref acc) e jd (.lst (fun z=>by
    rcases z with z | z
    ·exact x.na z
    ·exact na z) ha cd)
 | sto=>
   obtain⟨r,er,p⟩:=g
   cases er
   have k4:Kp ρ4 H4 ⟨ρ4.st++[acc],ρ1.vo⟩ H4:=⟨⟨[acc],rfl⟩,fun a o h n=>⟨fun z=>by
    rcases z with z | z
    ·rcases List.mem_append.mp z with z | z
     ·exact n (.inl z)
     ·exact n (.inr (by rw[hv,List.mem_singleton.mp z];exact .head _))
    ·exact n (.inr (by rw[hv];exact .tail _ z)),h⟩⟩
   have e:Ext ρ1 H2 ⟨ρ4.st++[acc],ρ1.vo⟩ H4:=by
    refine⟨?_,rfl,fun a h n=>?_,kp⟩
    ·obtain⟨τ,h1⟩:=x.pre
     exact⟨τ++[acc],by show ρ4.st++[acc]=_;rw[h1,List.append_assoc];rfl⟩
    ·rcases List.mem_append.mp h with z | z
     ·exact nw a z n
     ·rw[List.mem_singleton.mp z];exact hf
   have jd:J mg ⟨ρ4.st++[acc],ρ1.vo⟩ (M++[.lst l]) H4:=by
    refine⟨by show (ρ4.st++[acc]).length=_;rw[List.length_append,List.length_append,j.len];rfl,?_,fun n a w h1 h2=>?_,fun a h=>?_⟩
    ·show (ρ4.st++[acc]).Nodup
     rw[List.nodup_append]
     exact⟨j.nd,by simp,fun x' hx y hy e=>by rw[List.mem_singleton.mp hy] at e;exact x.na (e ▸ hx)⟩
    ·have h1:(ρ4.st++[acc])[n]?=some a:=h1
     by_cases hl:n<ρ4.st.length
     ·rw[List.getElem?_append_left hl] at h1
      rw[List.getElem?_append_left (by rw[←j.len];exact hl)] at h2
      exact (j.obj n a w h1 h2).map rfl fun vs ds c=>c.kp k4
     ·have hl':n<(ρ4.st++[acc]).length:=(List.getElem?_eq_some_iff.mp h1).1
      rw[List.length_append] at hl'
      have e:n=ρ4.st.length:=by have:[acc].length=1:=rfl;omega
      subst e
      rw[List.getElem?_append_right (Nat.le_refl _)] at h1
      rw[j.len,List.getElem?_append_right (Nat.le_refl _)] at h2
      simp at h1 h2
      subst h1 h2
      exact⟨ys,ha,c.kp k4⟩
    ·have h:a∈ρ1.vo:=h
     obtain⟨y1,y2⟩:=j.vol a (by rw[hv];exact .tail _ h)
     refine⟨fun z=>?_,y2⟩
     rcases List.mem_append.mp z with z | z
     ·exact y1 z
     ·exact na (List.mem_singleton.mp z ▸ h)
   refine p _ H4 (.ref acc) e jd (.ref ?_)
   show (ρ4.st++[acc])[_]?=_
   rw[←j.len];simp
theorem za {X:Cx}{E:XK}{scope:Scope}{cl:List (Str×Addr)}{own:List Str}{js:List Nat}{fr:List Str}{elt t0 i0:Expr}{f0:List Expr}{gs:List Comprehension}{pos:Pos}{fi:aa->DM Itn}{fg:D->aa->DM aa}{ft:aa->DM Bool}{fb:aa->List D->DM (aa×List D)}
  {bodyK:Cx->Addr->Sem Fin->Sem Fin}{W:Cx->Addr->(Shared->Prop)->Shared->Prop} (o:Out) (hc:X.calm=true) (T:CompG X scope cl own js fr) (hi:DI X E t0 i0 fi)
  (hturn:∀(Y:Cx) it acc,compTurn (.ListComp elt (⟨t0,i0,f0,0⟩::gs) scope pos) 0 (.ref it) (.ref acc) Y.env=turnOf ⟨t0,i0,f0,0⟩ (bodyK Y acc) (.compLoop (.ListComp elt (⟨t0,i0,f0,0⟩::gs) scope pos) 0 (.ref it) (.ref acc) Y.env) (.ref it) Y.env)
  (hW:∀Y acc,oH Y.prog Y.w Y.A (bodyK Y acc) (W Y acc)) (hmono:∀Y acc P P' s,(∀s,P s->P' s)->W Y acc P s->W Y acc P' s)
  (hg:∀pins m fp C s₂ H₂,DG (X.bf pins scope (cellsFrom m scope.names cl) (own++fr) fp C s₂ H₂) E0 t0 fg) (ht:∀pins m fp C s₂ H₂,DTs (X.bf pins scope (cellsFrom m scope.names cl) (own++fr) fp C s₂ H₂) E0 f0 ft)
  (hb:∀pins m fp C s₂ H₂ acc,BodyOk (X.bf pins scope (cellsFrom m scope.names cl) (own++fr) fp C s₂ H₂) acc (W (X.bf pins scope (cellsFrom m scope.names cl) (own++fr) fp C s₂ H₂) acc) fb)
  (hs:∀y,foldedSetIterable i0 X.env y=pure y:=by intro _;rfl) :
  DE X E (.ListComp elt (⟨t0,i0,f0,0⟩::gs) scope pos) (fun δ=>fi δ>>=fun it=>cN (cI fg ft fb it (aZ own.length js δ) [])>>=fun p=>o.run p.2):=⟨by
 intro pins s σ H Q I h
 obtain⟨ρ,δ,M,ev,j,g1⟩:=h
 rw[eval_ListComp]
 refine wpAny_comprehension_free (cl:=cl) (use:=none) rfl hs T.clos T.kind T.names ?_
 refine thn (hi.h pins s σ H (fun Jt H1=>∃ρ1 M1 it,Ext ρ H ρ1 H1∧J X.mg ρ1 M1 H1∧ItOk X.mg ρ1 H1 Jt it∧Go X.mg E (Cv X.mg) Q ρ1 H1 (cN (cI fg ft fb it (aZ own.length js δ) [])>>=fun p=>o.run p.2) M1) I
  ⟨ρ,δ,M,ev,j,g1.bind fun ρ1 H1 M1 Jt it e1 j1 iok g2=>⟨ρ1,M1,it,e1,j1,iok,g2⟩⟩) fun v s1 h1=>thn h1 fun itv s2 h2=>?_
 obtain⟨it,fp,tn,Jt,H2,rfl,I2,Tn,st2,f2,ρ1,M1,itn,x1,j1,iok,g2⟩:=h2
 have hrun:∃δf lf Mf,cI fg ft fb itn (aZ own.length js δ) [] M1=some (.ok (δf,lf),Mf)∧Go X.mg E (Cv X.mg) Q ρ1 H2 (o.run lf) Mf:=by
  obtain⟨r,e,p⟩:=g2
  have e:DM.bind _ _ M1=some r:=e
  unfold DM.bind at e
  split at e
  ·cases e
  ·rename_i c M' em
   obtain⟨a,M'',_,z⟩:=jm em
   cases z
  ·rename_i a M' em
   obtain⟨a',M'',e1,z⟩:=jm em
   cases z
   exact⟨a.1,a.2,M',e1,r,e,p⟩
 obtain⟨δf,lf,Mf,hrun,g3⟩:=hrun
 unfold newList
 refine wpAny_newObj_type (qQ ?_)
 have hlt:∀b∈fp,b<s2.heap.objs.size:=fun b hb=>by
  obtain⟨o,e,_⟩:=Tn.obj _ _ st2 b hb
  exact Heap.lt_size e
 dsimp only
 generalize hP:s2.heap.push { cls:=.type "list",dict:=none,data:=.seq ([]:List Value).toArray }=hp1
 have hCs:hp1.objs.size=s2.heap.objs.size+1:=by rw[←hP,Heap.size_push]
 have hCe:hp1.objs.size+1=(hp1.push { cls:=.type "dict",data:=.dict #[] }).objs.size:=by rw[Heap.size_push]
 have hC:s2.heap.objs.size≤hp1.objs.size:=by omega
 have hne:hp1.objs.size≠s2.heap.objs.size:=by omega
 have old1:∀b o,s2.heap.get? b=some o->hp1.get? b=some o:=fun b o e=>by rw[←hP];exact Heap.get?_push_of_some _ e
 have old:∀b o,s2.heap.get? b=some o->(pushCells (hp1.push { cls:=.type "dict",data:=.dict #[] }) scope.names).get? b=some o:=fun b o e=>pushCells_keeps _ _ _ _ (Heap.get?_push_of_some _ (old1 b o e))
 have new:∃n,(pushCells (hp1.push { cls:=.type "dict",data:=.dict #[] }) scope.names).get? s2.heap.objs.size=some { cls:=.type "list",data:=.seq #[] n }:=⟨_,pushCells_keeps _ _ _ _ (Heap.get?_push_of_some _ (by rw[←hP];exact Heap.get?_push_size _ rfl))⟩
 have ns:(pushCells (hp1.push { cls:=.type "dict",data:=.dict #[] }) scope.names).Ns hp1.objs.size fun _=>none:=(Heap.Ns.new hp1 (.type "dict")).keeps (pushCells_keeps _ _)
 have hfree:H2 s2.heap.objs.size=none:=I2.hok.fresh (Nat.le_refl _)
 have IC:=qK (t':=s2.toks) T I2 f2 hlt old (Nat.le_refl _) hC hne hCe (Nat.le_trans hC (Nat.le_succ _)) (Nat.lt_succ_self _) (Nat.lt_succ_of_le hC) rfl new ns
 have OK:=IC.ok
 have fok:∀H',(∀b∈fp,H' b=none)->∀b∈fp,FpOk (X.bf pins scope (cellsFrom (hp1.objs.size+1) scope.names cl) (own++fr) fp hp1.objs.size s2 H2) [] H' b:=fun H' hn b hb=>by
  obtain⟨_,g2,g3,g4,g5,g6⟩:=f2 b hb
  refine⟨hn b hb,Nat.ne_of_lt (Nat.lt_of_lt_of_le (hlt b hb) hC),fun hm=>?_,.inl hb,(OK.exf b hb).2,fun p hp=>g6 p (by simpa using hp)⟩
  rcases List.mem_cons.mp (I2.stkSub _ hm) with z | z
  ·exact g2 z
  ·exact g3 z
 have fp1:∀b∈fp,upd H2 s2.heap.objs.size (.lst []) b=none:=fun b hb=>by rw[upd_ne (Nat.ne_of_lt (hlt b hb))];exact (f2 b hb).1
 have jb:=j1.begin hfree
 have nf:=j1.fresh hfree
 have st:Cst (X.bf pins scope (cellsFrom (hp1.objs.size+1) scope.names cl) (own++fr) fp hp1.objs.size s2 H2) [] s2.heap.objs.size (ρ1.hold s2.heap.objs.size) (upd H2 s2.heap.objs.size (.lst [])) (aZ own.length js δ) [] M1 fp
   { s2 with heap:=pushCells (hp1.push { cls:=.type "dict",data:=.dict #[] }) scope.names,toks:=s2.toks }:=
  ⟨_,_,_,[],IC,.refl (fun z=>nf (.inl z)),jb,(uw (ev.mono x1) _ _).kp (jJ hfree),upd_same,.nil,fp1⟩
 have tn0:tn 0 (pushCells (hp1.push { cls:=.type "dict",data:=.dict #[] }) scope.names):=Tn.keep _ _ _ st2 (fun b _ o e=>old b o e)
 have loop:codeAny (model X.prog X.w) X.A (.compLoop (.ListComp elt (⟨t0,i0,f0,0⟩::gs) scope pos) 0 (.ref it) (.ref s2.heap.objs.size) (compEnvC scope (cellsFrom (hp1.objs.size+1) scope.names cl) hp1.objs.size X.env))
   (compPost (model X.prog X.w) X.A X.xe none (EP X pins σ Q) (.ref s2.heap.objs.size) hp1.objs.size) { s2 with heap:=pushCells (hp1.push { cls:=.type "dict",data:=.dict #[] }) scope.names,toks:=s2.toks }:=by
  refine xH (X:=X.bf pins scope (cellsFrom (hp1.objs.size+1) scope.names cl) (own++fr) fp hp1.objs.size s2 H2) hc rfl (hturn _ _ _) (hW _ _) (hmono _ _) (hg ..) (ht ..) (hb pins (hp1.objs.size+1) fp hp1.objs.size s2 H2 s2.heap.objs.size) Tn iok (.head _) (jJ hfree) fok st tn0 hrun fun s' c'=>?_
  obtain⟨σ4,H4,ρ4,ys,I4,x4,j4,ev4,ha4,cl4,fr4⟩:=c'.ex
  obtain⟨m4,hn4,_⟩:=I4.loc
  refine⟨m4,hn4,fun h' hsb'=>?_⟩
  have un:=yM I4.base hsb' hC
  have ok4:=uy I4.hok hsb' I4.free
  exact⟨.ref s2.heap.objs.size,H4,I2.call' (s':={ s' with heap:=h' }) (ch:=fp) (I4.os) un ok4 I4.bare (fun b hb=>by
   obtain⟨_,g2,g3,g4,g5,g6⟩:=f2 b hb
   exact⟨g4,g2,g5,g6⟩),rfl,o.fin hfree nf x4 j4 ha4 cl4 g3⟩
 show codeAny _ _ (.compStart _ 0 (.ref it) (.ref s2.heap.objs.size) (compEnvC scope (cellsFrom (hp1.objs.size+1) scope.names cl) hp1.objs.size X.env)) _ _
 exact qR rfl rfl loop (Tn.self X.A 0 _ _ _ tn0 loop)⟩
theorem rR{X:Cx}{E:XK}{scope:Scope}{cl:List (Str×Addr)}{own:List Str}{js:List Nat}{fr:List Str}{elt t0 i0:Expr}{f0:List Expr}{pos:Pos}{fi:aa->DM Itn}{fg:D->aa->DM aa}{ft:aa->DM Bool}{fe:aa->DM D}
  (o:Out) (hc:X.calm=true) (T:CompG X scope cl own js fr) (hi:DI X E t0 i0 fi)
  (hg:∀pins m fp C s₂ H₂,DG (X.bf pins scope (cellsFrom m scope.names cl) (own++fr) fp C s₂ H₂) E0 t0 fg) (ht:∀pins m fp C s₂ H₂,DTs (X.bf pins scope (cellsFrom m scope.names cl) (own++fr) fp C s₂ H₂) E0 f0 ft)
  (he:∀pins m fp C s₂ H₂,DE (X.bf pins scope (cellsFrom m scope.names cl) (own++fr) fp C s₂ H₂) E0 elt fe)
  (hs:∀y,foldedSetIterable i0 X.env y=pure y:=by intro _;rfl) :
  DE X E (.ListComp elt [⟨t0,i0,f0,0⟩] scope pos) (fun δ=>fi δ>>=fun it=>cN (cI fg ft (bR fe) it (aZ own.length js δ) [])>>=fun p=>o.run p.2):=
 za (bodyK:=fun Y acc=>o4 elt (.ref acc) Y.env) (W:=fun Y acc P s=>wpAny (model Y.prog Y.w) Y.A (eval elt Y.env) (fun x s1=>wpAny (model Y.prog Y.w) Y.A (call (.builtin "list.append") [.ref acc,x]) (fun _ s2=>P s2) (fun _ _=>False) s1) (fun _ _=>False) s) o hc T hi
  (fun Y it acc=>Aq ..) (fun Y acc=>wY) (fun Y acc P P' s hp h=>wpAny_mono h (fun x s1 h1=>wpAny_mono h1 (fun _ s2 h2=>hp _ h2) fun _ _ z=>z) fun _ _ z=>z) hg ht (fun pins m fp C s₂ H₂ acc=>uv rfl (he ..)) hs
def frz:D->Option (Bool×List D)
 |.tup l=>some (true,l)
 |.lst l=>some (false,l)
 |_=>none
def pairs:List D->List D->List D
 |x::xs,y::ys=>.tup [x,y]::pairs xs ys
 |_,_=>[]
def Hz:List D->Option Itn
 |[x,y]=>match frz x,frz y with
   |some (_,l),some (_,m)=>some (.fix (pairs l m))
   |_,_=>none
 |_=>none
structure XTab(K:PySem.W.Frag)(mg:Str->Option Value)(ns:List Str)(F:Addr):Prop where
 cls:∀a∈ns,∃C,XCls K mg a C∧XAt K C∧Catches K C F
 kit:∀a∈ns,∀b∈ns,∀C D,mg a=some (.ref C)->mg b=some (.ref D)->PySem.W.kitOne K (.ref C) (.ref D)=some (a==b)
theorem zj{P:Program}{w:World}{K:PySem.W.Frag}{mg:Str->Option Value}{base:Heap}{N:List Str}{qual:Str}{scope:Scope}{f:Addr}{cd:Value}{A:Around}{outer:List Env}{s:Shared}{H:Hp}{E:XK}{ns:List Str}{F:Addr}{x:Str}{np cpos pos:Pos}{e:Expr}{fe:aa->DM D}
  (T:XTab K mg ns F) (hx:x∈ns) (he:DE (bK P w K mg base N qual scope f cd A outer s H E) E e fe)
  (hg:Gl (bK P w K mg base N qual scope f cd A outer s H E) x:=by rfl) (hd:(x==("__debug__":Str))=false:=by decide)
  (hst:starEach [e] (bK P w K mg base N qual scope f cd A outer s H E).env=[(false,eval e (bK P w K mg base N qual scope f cd A outer s H E).env)]:=by rfl) :
  DS (bK P w K mg base N qual scope f cd A outer s H E) E (.Raise (some (.Call (.Name x np) [e] [] cpos)) none pos) (fun δ=>fe δ>>=fun _=>raise x):=by
 obtain⟨C,xc,_,_⟩:=T.cls x hx
 refine⟨PS.mono (L2.zP xc he.h hg hd hst) fun D σ H h=>?_⟩
 obtain⟨ρ,δ,M,ev,j,g1⟩:=h
 refine⟨ρ,δ,M,ev,j,g1.bind fun ρ1 H1 M1 v d e1 j1 c1 g2=>⟨rfl,?_⟩⟩
 obtain⟨r,er,p⟩:=g2
 cases er
 exact p ρ1 H1 C .refl j1 xc.at_
theorem Ev.forget{mg:Str->Option Value}{ρ:Rh}{H:Hp}{σ:L2.St}{δ:aa}{i:Nat}(h:Ev mg ρ H σ δ):Ev mg ρ H (σ.set i none) (δ.set i none):=by
 refine⟨by rw[List.length_set,List.length_set,h.len],fun j x q=>?_⟩
 by_cases e:j=i
 ·subst e
  have hj:j<(δ.set j none).length:=(List.getElem?_eq_some_iff.mp q).1
  rw[List.length_set] at hj
  rw[List.getElem?_set_self hj] at q
  cases q
 ·rw[List.getElem?_set_ne (fun z=>e z.symm)] at q ⊢
  exact h.val j x q
def DR(i:Nat):Fl->DM Fl
 |.nx δ=>pure (.nx (δ.set i none))
 |.bk δ=>pure (.bk (δ.set i none))
 |.ct δ=>pure (.ct (δ.set i none))
 |.rt d=>pure (.rt d)
def qz(ns:List Str)(n i:Nat)(fb:aa->DM Fl)(fh:Str->aa->DM Fl)(δ:aa):DM Fl:=fun M=>match fb δ M with
 |some (.exc c,M')=>if ns.contains c then (cN (fh c ((List.replicate n none).set i (some (.exn 0))))>>=DR i) M' else none
 |r=>r
theorem CK {X:Cx}{E:XK} (nl:Nat) {ns:List Str}{fb:aa->DM Fl}{fh:Str->aa->DM Fl}{fy:Addr->Str->aa->DM Fl}{x n:Str}{F:Addr}{i:Nat}{body suite:List Stmt}{b₀:Stmt}{np p1 pos:Pos} (T:XTab X.K X.mg ns F) (hcalm:X.calm=true) (hcells:X.env.cells=[]) (hex:X.ex=[])
  (hst:X.stack=X.env::X.outer) (hfr:X.env.frame=some X.env.locals) (hN:X.N.Nodup) (hi:X.N[i]?=some n) (hk:X.env.kindOf n=some .local) (hm:X.mg x=some (.ref F))
  (hb:∀pins Eh,DSs (X.tryC pins Eh) Eh body fb) (hs:∀c C y oe,c∈ns->X.mg c=some (.ref C)->oe.cls=.ref C->XAt X.K C->DSs (X.sui y oe) E0 (b₀::suite) (fy y c))
  (hy:∀y c M r,fh c ((List.replicate nl none).set i (some (.exn 0))) M=some r->fy y c ((List.replicate nl none).set i (some (.exn y))) M=some r)
  (hnl:X.N.length=nl:=by rfl)    (hg:Gl X x:=by rfl) (hd:(x==("__debug__":Str))=false:=by decide) :
  DS X E (.Try body [.ExceptHandler (some (.Name x np)) (some n) (b₀::suite) p1] [] [] pos) (qz ns nl i fb fh):=⟨by
 subst hnl
 intro pins s σ H D I h
 obtain⟨ρ,δ,M,ev,j,g1⟩:=h
 -- what is wanted of an exception
 let Eh:XK:=fun C' o H'=>∃c C ρ' M' r,c∈ns∧C'=.ref C∧o=none∧X.mg c=some (.ref C)∧J X.mg ρ' M' H'∧(cN (fh c ((List.replicate X.N.length none).set i (some (.exn 0))))>>=DR i) M'=some r∧lZ X.mg ρ' H' D E r
 have key:tS X.mg Eh fb D σ H:=by
  obtain⟨r,e,p⟩:=g1
  unfold qz at e
  split at e
  ·rename_i c M' em
   split at e
   rotate_left
   ·cases e
   rename_i hc
   refine⟨ρ,δ,M,ev,j,_,em,fun ρ' H' C x' j' m=>⟨c,C,ρ',M',r,List.contains_iff_mem.mp hc,rfl,rfl,m,j',e,p.mono x'⟩⟩
  ·rename_i em
   refine⟨ρ,δ,M,ev,j,r,e,?_⟩
   obtain⟨r,M'⟩:=r
   cases r with
   |ok a=>cases a<;>exact p
   |exc c=>exact absurd e (em c M')
 refine L2.Ec (Eh:=Eh) (tb:=tS X.mg Eh fb) (th:=fun y oe D σ H=>∃c C,c∈ns∧X.mg c=some (.ref C)∧oe.cls=.ref C∧XAt X.K C∧tS X.mg E0 (fy y c) D σ H) hcalm hcells hex hst hfr hN hi hk hm (fun pins=>(hb pins Eh).h) (fun y oe pins' s' σ' H' D' I' q=>?_) hg hd pins s σ H D I ⟨key,?_⟩
 ·obtain⟨c,C,hc,m,ho,xa,q⟩:=q
  exact (hs c C y oe hc m ho xa).h pins' s' σ' H' D' I' q
 ·rintro y oe C' H1 hcl _ ⟨c,C,ρ',M',r,hc,rfl,_,m,j',e,p⟩
  obtain⟨C2,xc,xa,ca⟩:=T.cls c hc
  have:C2=C:=by have:=xc.at_;rw[m] at this;cases this;rfl
  subst this
  refine⟨⟨C2,rfl,ca⟩,c,C2,hc,m,hcl,xa,ρ',(List.replicate X.N.length none).set i (some (.exn y)),M',?_,j',?_⟩
  ·refine ⟨by simp,fun k d q=>?_⟩
   by_cases hk':k=i
   ·subst hk'
    have hl:k<(List.replicate X.N.length (none:Option L3.D)).length:=by
     have:=(List.getElem?_eq_some_iff.mp q).1
     rw[List.length_set] at this;exact this
    rw[List.getElem?_set_self hl] at q
    cases q
    refine⟨.ref y,List.getElem?_set_self ?_,.exn y⟩
    rw[List.length_replicate] at hl ⊢;exact hl
   ·rw[List.getElem?_set_ne (fun z=>hk' z.symm),List.getElem?_replicate] at q
    split at q<;>cases q
  ·have e:DM.bind _ _ M'=some r:=e
   unfold DM.bind at e
   split at e
   ·cases e
   ·rename_i em
    obtain⟨_,_,_,z⟩:=jm em
    cases z
   ·rename_i a M'' em0
    obtain⟨a',M3,em,z⟩:=jm em0
    cases z
    refine⟨_,hy y c _ _ em,?_⟩
    cases a with
    |nx δ2=>cases e;exact fun ρ2 H2 σ2 a1 a2 a3=>p ρ2 H2 (σ2.set i none) a1 a2 a3.forget
    |bk δ2=>cases e;exact fun ρ2 H2 σ2 a1 a2 a3=>p ρ2 H2 (σ2.set i none) a1 a2 a3.forget
    |ct δ2=>cases e;exact fun ρ2 H2 σ2 a1 a2 a3=>p ρ2 H2 (σ2.set i none) a1 a2 a3.forget
    |rt d=>cases e;exact fun ρ2 H2 v a1 a2 a3=>p ρ2 H2 v a1 a2 a3⟩
def sO(ns:List Str)(c:Str):List D->Mo->Option D
 |[.exn _,.cls k],_=>if ns.contains k then some (.bl (c==k)) else none
 |_,_=>none
def nQ(ns:List Str)(y:Addr)(c:Str):List D->Mo->Option D
 |[.exn a,.cls k],_=>if a==y&&ns.contains k then some (.bl (c==k)) else none
 |_,_=>none
theorem Fv{α β:Type}(a:α)(f:α->DM β):((Pure.pure a:DM α)>>=f)=f a:=rfl
theorem Hf(ns:List Str)(y:Addr)(c k:Str):nQ ns y c [.exn y,.cls k]=sO ns c [.exn 0,.cls k]:=by
 funext M
 simp[nQ,sO]
theorem Hk{α:Type}(a:α):(opt (some a):DM α)=Pure.pure a:=rfl
theorem Ab{α β γ:Type}(m:DM α)(f:α->DM β)(g:β->DM γ):(m>>=f)>>=g=m>>=fun a=>f a>>=g:=by
 funext M
 show DM.bind (DM.bind m f) g M=DM.bind m (fun a=>DM.bind (f a) g) M
 unfold DM.bind
 cases m M with
 |none=>rfl
 |some r=>obtain⟨r,M'⟩:=r;cases r<;>rfl
theorem kY {X:Cx}{E:XK}{K:PySem.W.Frag}{mg:Str->Option Value}{ns:List Str}{F y C:Addr}{oe:Obj}{c:Str} (T:XTab K mg ns F) (hc:c∈ns) (hm:mg c=some (.ref C)) (ho:oe.cls=.ref C) (xa:XAt K C) (hp:(y,oe)∈X.pn) (hK:X.K=K:=by rfl) (hM:X.mg=mg:=by rfl):CallD X E (.builtin "isinstance") (fun l=>rd (nQ ns y c l)):=by
 subst hK hM
 exact   CallD.of (wI hp) fun vs H Q ρ M ds d j cs e q=>by
  unfold nQ at e
  split at e
  ·split at e
   ·rename_i hk
    cases e
    rw[Bool.and_eq_true] at hk
    obtain⟨v,w,rfl,k1,k2⟩:=cs.two
    cases k1
    have ha:=beq_iff_eq.mp hk.1
    subst ha
    cases k2 with | cls h=>
    exact⟨_,_,C,_,rfl,rfl,.inr ⟨_,rfl⟩,ho,xa,T.kit c hc _ (List.contains_iff_mem.mp hk.2) _ _ hm h,q ρ H _ .refl j (.bl _)⟩
   ·cases e
  ·cases e
section
variable{X:Cx}{E:XK}{a b c:Expr}{fa fb fc:aa->DM D}{pos:Pos}
def zq:D->Mo->Option D
 |.int i,_=>if i.natAbs.log2<1920 then some (.str (toString i)) else none
 |_,_=>none
theorem CJ (ha:DE X E a fa):DE X E (.FormattedValue a (-1) none pos) (fun δ=>fa δ >>= fun x=>rd (zq x)):=⟨PE.mono (Eb ha.h) fun σ H Q h=>by
 obtain⟨ρ,δ,M,ev,j,g1⟩:=h
 refine⟨ρ,δ,M,ev,j,g1.bind fun ρ1 H1 M1 x dx e1 j1 c1 g2=>?_⟩
 obtain⟨d,e,q⟩:=g2.rd
 unfold zq at e
 split at e
 ·split at e
  ·cases e;cases c1
   exact⟨_,rfl,‹_›,q ρ1 H1 _ .refl j1 (.str _)⟩
  ·cases e
 ·cases e⟩
def strOf:D->Option Str
 |.str x=>some x
 |_=>none
def o9(fa fb fc:aa->DM D)(δ:aa):DM D:=fa δ>>=fun x=>opt (strOf x)>>=fun a=>(if a.length≤sizeLine then pure () else stuck)>>=fun _=>fb δ>>=fun y=>opt (strOf y)>>=fun b=>(if a.length+b.length≤sizeLine then pure () else stuck)>>=fun _=>fc δ>>=fun z=>opt (strOf z)>>=fun c=>if a.length+b.length+c.length≤sizeLine then pure (.str (Str.empty++a++b++c)) else stuck
theorem Go.strOf{mg:Str->Option Value}{ρ:Rh}{H:Hp}{M:Mo}{α β:Type}{rel:Rh->Hp->β->α->Prop}{Q:β->Hp->Prop}{d:D}{k:Str->DM α}(g:Go mg E rel Q ρ H (L3.opt (L3.strOf d)>>=k) M):∃x,d=.str x∧Go mg E rel Q ρ H (k x) M:=by
 cases d with
 |str x=>exact⟨x,rfl,g⟩
 |_=>obtain⟨r,e,_⟩:=g;cases e
theorem Go.ite{mg:Str->Option Value}{ρ:Rh}{H:Hp}{M:Mo}{α β:Type}{rel:Rh->Hp->β->α->Prop}{Q:β->Hp->Prop}{p:Prop}[Decidable p]{m:DM α}(g:Go mg E rel Q ρ H (if p then m else stuck) M):p∧Go mg E rel Q ρ H m M:=by
 by_cases h:p
 ·rw[if_pos h] at g;exact⟨h,g⟩
 ·rw[if_neg h] at g;obtain⟨r,e,_⟩:=g;cases e
theorem Go.iteB{mg:Str->Option Value}{ρ:Rh}{H:Hp}{M:Mo}{α β:Type}{rel:Rh->Hp->β->α->Prop}{Q:β->Hp->Prop}{p:Prop}[Decidable p]{k:Unit->DM α}(g:Go mg E rel Q ρ H ((if p then (Pure.pure ():DM Unit) else stuck)>>=k) M):p∧Go mg E rel Q ρ H (k ()) M:=by
 by_cases h:p
 ·rw[if_pos h] at g;exact⟨h,g⟩
 ·rw[if_neg h] at g;obtain⟨r,e,_⟩:=g;cases e
theorem rT(ha:DE X E a fa)(hb:DE X E b fb)(hc:DE X E c fc):DE X E (.JoinedStr [a,b,c] pos) (o9 fa fb fc):=⟨PE.mono (zL ha.h hb.h hc.h) fun σ H Q h=>by
 obtain⟨ρ,δ,M,ev,j,g1⟩:=h
 refine⟨ρ,δ,M,ev,j,Go.bind g1 fun ρ1 H1 M1 x dx e1 j1 c1 g2=>?_⟩
 obtain⟨sa,rfl,g2⟩:=g2.strOf
 obtain⟨h1,g2⟩:=g2.iteB
 cases c1
 refine⟨sa,rfl,h1,ρ1,δ,M1,ev.mono e1,j1,g2.bind fun ρ2 H2 M2 y dy e2 j2 c2 g3=>?_⟩
 obtain⟨sb,rfl,g3⟩:=g3.strOf
 obtain⟨h2,g3⟩:=g3.iteB
 cases c2
 refine⟨sb,rfl,h2,ρ2,δ,M2,(ev.mono e1).mono e2,j2,g3.bind fun ρ3 H3 M3 z dz e3 j3 c3 g4=>?_⟩
 obtain⟨sc,rfl,g4⟩:=g4.strOf
 obtain⟨h3,g4⟩:=g4.ite
 cases c3
 exact⟨sc,rfl,h3,g4.pure ρ3 H3 _ .refl j3 (.str _)⟩⟩
end
theorem Az{X:Cx}{E:XK}{pos:Pos}:DE X E (.Dict [] [] pos) (fun _=>pure (.dic [] [])):=⟨PE.mono pe_dnewK fun σ H Q h=>by
 obtain⟨ρ,δ,M,ev,j,g⟩:=h
 exact fun p hp=>g.pure ρ _ _ (.lay hp) (j.lay _ hp) (.dic (j.fresh hp) upd_same rfl .nil)⟩
theorem Ba{X:Cx}{E:XK}{i j:Int}{k1 k2:Nat}{p1 p2 pos:Pos}:DE X E (.Dict [some (.Constant (.int i) k1 p1)] [.Constant (.int j) k2 p2] pos) (fun _=>pure (.dic [.inl i] [.int j])):=⟨PE.mono (pe_disp (pps_cons pe_int pe_int pps_nil) rfl rfl (by simp) (by show 1≤15;decide)) fun σ H Q h=>by
 obtain⟨ρ,δ,M,ev,jj,g⟩:=h
 refine fun p hp=>⟨upd_same,[(.inl i,.int j)],rfl,(by show 1≤15;decide),?_⟩
 have e:upd (upd H p (HO.dK [])) p (HO.dK (mergeK [] [(.inl i,.int j)]))=upd H p (.dK [(.inl i,.int j)]):=upd_upd
 rw[e]
 exact g.pure ρ _ _ (.lay hp) (jj.lay _ hp) (.dic (ks:=[.inl i]) (xs:=[.int j]) (jj.fresh hp) upd_same rfl (.cons (.int j) .nil))⟩
theorem fW:∀ {names:List (Str×NameKind)}{m:Nat}{y:Str}{c:Addr},(y,c)∈cellsFrom m names []->(y,NameKind.cell)∈names
 |[],_,_,_,h=>nomatch h
 | (n,k)::r,m,y,c,h=>by
   unfold cellsFrom at h
   split at h
   ·rename_i hk
    rw[bZ] at h
    rcases List.mem_append.mp h with z | z
    ·exact .tail _ (fW z)
    ·cases List.mem_singleton.mp z
     have hk':k=.cell:=by cases k<;>first | rfl | cases hk
     rw[hk'];exact .head _
   ·exact .tail _ (fW h)
def isC:NameKind->Bool
 |.cell=>true
 |_=>false
theorem Df{k:NameKind}(h:isC k=true):k=.cell:=by cases k<;>first | rfl | cases h
theorem Bo{names:List (Str×NameKind)}(h:(names.all fun p=>!isC p.2 || (match names.lookup p.1 with | some k=>isC k | none=>false))=true):∀(m:Nat) y c,(cellsFrom m names []).lookup y=some c->names.lookup y=some .cell:=fun m y c e=>by
 have hm:=fW (PySem.mem_of_lookup e)
 have q:=List.all_eq_true.mp h _ hm
 simp only[isC,Bool.not_true,Bool.false_or] at q
 split at q
 ·rename_i k hk
  rw[hk,Df q]
 ·cases q
theorem Bp{cl:List (Str×Addr)}{names:List (Str×NameKind)}(h:rN (fun p=>(match names.lookup p.1 with | some k=>isC k | none=>false)=false) cl):∀y c,cl.lookup y=some c->names.lookup y≠some .cell:=fun y c e z=>by
 have:=jB h (y,c) (L2.mem_of_lookup e)
 simp only[z,isC] at this
 cases this
end L3
namespace L3
open PySem PySem.Spec L2
@[simp] theorem au{α β:Type}(a:α)(f:α->DM β):((Pure.pure a:DM α)>>=f)=f a:=id rfl
@[simp] theorem aF{α β γ:Type}(m:DM α)(f:α->DM β)(g:β->DM γ):(m>>=f)>>=g=m>>=fun a=>f a>>=g:=Ab m f g
@[simp] theorem cU{α:Type}(a:α):(opt (some a):DM α)=Pure.pure a:=id rfl
@[simp] theorem Il{α:Type}(a:α):cN (Pure.pure a:DM α)=Pure.pure a:=id rfl
@[simp] theorem HD{α β:Type}(c:Str)(f:α->DM β):((raise c:DM α)>>=f)=raise c:=id rfl
theorem aX{α:Type}{f:Mo->Option α}{a:α}(h:∀M,f M=some a):(rd f:DM α)=Pure.pure a:=by
 funext M
 show (f M).map _=_
 rw[h M];rfl
@[simp] theorem Io(f g:aa->DM Fl)(δ:aa):ou f g δ=f δ>>=fun r=>match r with
 |.nx δ'=>g δ'
 |r=>Pure.pure r:=id rfl
@[simp] theorem aU(i:Nat)(δ:aa):gO i δ=opt ((δ[i]?).join):=id rfl
@[simp] theorem cL(b:Bool):dm (.bl b)=Pure.pure b:=id rfl
@[simp] theorem HX(p n:Nat)(fb:aa->DM Fl)(ds:List D):aP p n fb ds=if ds.length=p then fb (dU n ds)>>=fun r=>match r with
 |.nx _=>Pure.pure .non
 |.rt d=>Pure.pure d
 |_=>stuck else stuck:=id rfl
@[simp] theorem HF(n:Nat)(ds:List D):dU n ds=ds.map some++List.replicate (n-ds.length) none:=id rfl
@[simp] theorem nZ(i:Nat)(d:D)(δ:aa):gN i d δ=Pure.pure (δ.set i (some d)):=id rfl
@[simp] theorem Hs(n:Nat)(fs:List D->aa->DM aa)(l:List D)(δ:aa):gT n fs (.tup l) δ=if l.length=n then fs l δ else stuck:=id rfl
@[simp] theorem Gm(f:D->aa->DM aa)(fs:List D->aa->DM aa)(d:D)(l:List D)(δ:aa):xm f fs (d::l) δ=f d δ>>=fun δ'=>fs l δ':=id rfl
@[simp] theorem Gn(δ:aa):Ae [] δ=Pure.pure δ:=id rfl
@[simp] theorem Im(i j:Nat)(fa:aa->DM (List D))(δ:aa):DX i j fa δ=fa δ>>=fun l=>match l with
 |[v,w]=>Pure.pure (.nx ((δ.set i (some v)).set j (some w)))
 |_=>stuck:=id rfl
@[simp] theorem Al(i j:Int):(rd (b7 (.int i) (.int j)):DM D)=Pure.pure (.int (i+j)):=id rfl
@[simp] theorem Gs(i j:Int):(rd (zW (.int i) (.int j)):DM D)=Pure.pure (.int (i-j)):=id rfl
@[simp] theorem Hu(i j:Int):(rd (Do (.int i) (.int j)):DM D)=Pure.pure (.bl (decide (i<j))):=id rfl
@[simp] theorem Ht(i j:Int):(rd (ph (.int i) (.int j)):DM D)=Pure.pure (.bl (decide (i≤j))):=id rfl
@[simp] theorem Ek(i j:Int):(rd (qN (.int i) (.int j)):DM D)=Pure.pure (.bl (decide (j<i))):=id rfl
@[simp] theorem zT(i j:Int):(rd (o7 (.int i) (.int j)):DM D)=Pure.pure (.bl (decide (j≤i))):=id rfl
@[simp] theorem vO(i:Int):(rd (zF (.int i)):DM D)=Pure.pure (.int (-i)):=id rfl
@[simp] theorem Ig(i:Int):(rd (G8 [.int i]):DM D)=Pure.pure (.int (if i<0 then -i else i)):=id rfl
@[simp] theorem En(i j:Int):(rd (vI [.int i,.int j]):DM D)=Pure.pure (.int (if j > i then j else i)):=id rfl
@[simp] theorem Eo(i j:Int):(rd (vJ [.int i,.int j]):DM D)=Pure.pure (.int (if j<i then j else i)):=id rfl
theorem pK{i j:Int}(h:0<j):(rd (jM (.int i) (.int j)):DM D)=Pure.pure (.int (i%j)):=aX fun M=>by simp[cY,h]
theorem mF{i j:Int}(h:fH i j=true):(rd (fX (.int i) (.int j)):DM D)=Pure.pure (.int (i*j)):=aX fun M=>by simp[cY,h]
theorem xY{i j:Int}(h:mq i j=true):(rd (o6 (.int i) (.int j)):DM D)=Pure.pure (.int (i / j)):=aX fun M=>by simp[cY,h]
theorem rA{i j:Int}(h:Aj i j=true):(rd (qi (.int i) (.int j)):DM D)=Pure.pure (.int (i^j.toNat)):=aX fun M=>by simp[cY,h]
theorem bits_le{i:Int}{n:Nat}(h:i.natAbs<2^n):Builtin.Int.intBits i≤n:=by
 unfold Builtin.Int.intBits
 split
 ·exact Nat.zero_le _
 ·rename_i h0
  have:i.natAbs≠0:=by intro z;apply h0;simp;omega
  exact (Nat.log2_lt this).mpr h
theorem qd{i j:Int}(h:i.natAbs<2^64):fH i j=true:=by
 unfold fH
 have:¬ (Builtin.Int.intBits i > shortFactorBits):=by have:=bits_le h;unfold shortFactorBits;omega
 simp[this]
theorem qe{i j:Int}(h:j.natAbs<2^64):fH i j=true:=by
 unfold fH
 have:¬ (Builtin.Int.intBits j > shortFactorBits):=by have:=bits_le h;unfold shortFactorBits;omega
 simp[this]
theorem uo{i j:Int}(h0:0<j)(h:j.natAbs<2^1000):mq i j=true:=by
 unfold mq
 have a:Builtin.divisionGoesByPylong i j=false:=by
  unfold Builtin.divisionGoesByPylong
  have hj:j.natAbs≠0:=by omega
  have hl:j.natAbs.log2<1000:=(Nat.log2_lt hj).mpr h
  have h0':(j==0)=false:=by simp;omega
  simp only[h0']
  have:¬ (j.natAbs.log2 / 30+1 > 300):=by omega
  simp[this]
 simp[a,h0]
theorem Er{a b:Nat}(h:a<2^64):(rd (fX (.int (a:Int)) (.int (b:Int))):DM D)=Pure.pure (.int ((a*b:Nat):Int)):=by
 rw[mF (qd (by simpa using h)),Int.natCast_mul]
theorem Ep{a b:Nat}(h0:0<b):(rd (jM (.int (a:Int)) (.int (b:Int))):DM D)=Pure.pure (.int ((a%b:Nat):Int)):=by
 rw[pK (by omega),Int.natCast_emod]
def nD(n:Nat):D:=.int (n:Int)
def nT(l:List Nat):D:=.tup (l.map nD)
theorem oM{α:Type}{l:List α}{i:Nat}{a:α}(h:l[i]?=some a):atI l (i:Int)=some a:=by
 have hi:=(List.getElem?_eq_some_iff.mp h).1
 unfold atI ixN
 rw[if_pos (by omega),if_pos (by omega)]
 simpa using h
theorem Am{l:List D}{i:Nat}{a:D}(h:l[i]?=some a):(rd (gP (.tup l) (.int (i:Int))):DM D)=Pure.pure a:=aX fun M=>oM h
theorem rm{l:List D}{i:Nat}{a:D}(h:l[i]?=some a):(rd (gP (.lst l) (.int (i:Int))):DM D)=Pure.pure a:=aX fun M=>oM h
@[simp] theorem yt(l:List D):(rd (jK [.tup l]):DM D)=Pure.pure (.int (l.length:Int)):=id rfl
@[simp] theorem HY(l:List D):(rd (jK [.lst l]):DM D)=Pure.pure (.int (l.length:Int)):=id rfl
@[simp] theorem El(l:List Int):(rd (jK [.scr l]):DM D)=Pure.pure (.int (l.length:Int)):=id rfl
@[simp] theorem yx(l:List D):(rd (jx [.lst l]):DM D)=Pure.pure (.tup l):=id rfl
@[simp] theorem Ia(l:List D):(rd (jx [.tup l]):DM D)=Pure.pure (.tup l):=id rfl
theorem o8:∀l:List Int,intsOf (l.map D.int)=some l
 |[]=>rfl
 |i::l=>by simp[intsOf,o8 l]
theorem lz:∀l:List Nat,intsOf (l.map nD)=some (l.map fun n:Nat=>(n:Int))
 |[]=>rfl
 |i::l=>by simp[intsOf,nD];exact lz l
theorem oF:∀l:List Nat,(l.map fun n:Nat=>(n:Int)).sum=((l.sum:Nat):Int)
 |[]=>rfl
 |i::l=>by simp[oF l]
@[simp] theorem tM(l:List Nat):(rd (qw [nT l]):DM D)=Pure.pure (nD l.sum):=aX fun M=>by
 show (intsOf (l.map nD)).map _=_
 rw[lz];simp[nD,oF]
@[simp] theorem H9(l:List Nat):(rd (qw [.lst (l.map nD)]):DM D)=Pure.pure (nD l.sum):=aX fun M=>by
 show (intsOf (l.map nD)).map _=_
 rw[lz];simp[nD,oF]
@[simp] theorem tL{n:Nat}(h:n<2^62):lN [.int (n:Int)]=some (.fix ((List.range n).map nD)):=by
 have:vU (n:Int)=true:=by unfold vU;exact decide_eq_true ⟨by omega,by omega⟩
 simp[lN,this,n6,nD]
@[simp] theorem Ih(l:List D):oK (.tup l)=some (.fix l):=id rfl
theorem dD{l:List D}(h:l.length≤1000000):gf l=Pure.pure (.tup l):=by
 have:dg l=true:=by unfold dg;exact decide_eq_true (by show l.length≤2^24;omega)
 simp[gf,this]
theorem cz{l:List D}(h:l.length≤1000000):dH l=Pure.pure (.lst l):=by
 have:dg l=true:=by unfold dg;exact decide_eq_true (by show l.length≤2^24;omega)
 simp[dH,this]
@[simp] theorem ql(fg:D->aa->DM aa)(ft:aa->DM Bool)(fb:aa->List D->DM (aa×List D))(ds:List D)(δ:aa)(l:List D):cI fg ft fb (.fix ds) δ l=bA fg ft fb ds δ l:=id rfl
theorem sS {fg:D->aa->DM aa}{ft:aa->DM Bool}{fe:aa->DM D} (S:aa->Prop) (en:D->aa) (p:D->Bool) (e:D->D):∀ (ds:List D) (δ:aa) (l:List D),S δ->l.length + ds.length≤1000000->
  (∀d∈ds,∀δ,S δ->fg d δ=Pure.pure (en d)∧S (en d))->(∀d∈ds,ft (en d)=Pure.pure (p d))->(∀d∈ds,p d=true->fe (en d)=Pure.pure (e d))->∃δ',bA fg ft (bR fe) ds δ l=Pure.pure (δ',l++(ds.filter p).map e)
 |[],δ,l,_,_,_,_,_=>⟨δ,by simp[bA]⟩
 | d::ds,δ,l,s,hl,h0,h1,h2=>by
   have a:=h0 d (List.mem_cons_self ..) δ s
   have b:=h1 d (List.mem_cons_self ..)
   have hl':l.length+(ds.length+1)≤1000000:=by simpa using hl
   have lt:l.length<sizeLine:=by show l.length<2^24;omega
   have ih:=fun l' hl'=>sS S en p e ds (en d) l' a.2 hl' (fun x hx=>h0 x (List.mem_cons_of_mem _ hx)) (fun x hx=>h1 x (List.mem_cons_of_mem _ hx)) (fun x hx=>h2 x (List.mem_cons_of_mem _ hx))
   by_cases hp:p d=true
   ·have c:=h2 d (List.mem_cons_self ..) hp
    obtain⟨δ',q⟩:=ih (l++[e d]) (by simp;omega)
    refine⟨δ',?_⟩
    simp[bA,a.1,b,hp,bR,c,lt,q]
   ·obtain⟨δ',q⟩:=ih l (by omega)
    refine⟨δ',?_⟩
    simp[bA,a.1,b,hp,q]
@[simp] theorem lM(l:List D):Out.run .val l=Pure.pure (.lst l):=id rfl
theorem Fw{ft:aa->DM Bool}{fe:aa->DM D}{x:Option D}{rest:aa}{ds:List D}(p:D->Bool)(e:D->D)(hl:ds.length≤1000000)(h1:∀d∈ds,ft (some d::rest)=Pure.pure (p d))(h2:∀d∈ds,p d=true->fe (some d::rest)=Pure.pure (e d)){β:Type}{k:aa×List D->DM β}{k':List D->DM β}(hk:∀q,k q=k' q.2) :
  (cN (bA (gN 0) ft (bR fe) ds (x::rest) [])>>=k)=k' ((ds.filter p).map e):=by
 obtain⟨δ',q⟩:=sS (fg:=gN 0) (ft:=ft) (fe:=fe) (fun δ=>∃x,δ=x::rest) (fun d=>some d::rest) p e ds (x::rest) [] ⟨x,rfl⟩ (by simpa using hl) (fun d _ δ ⟨x,h⟩=>⟨by subst h;rfl,_,rfl⟩) h1 h2
 rw[q];simp[hk]
@[simp] theorem HB{α:Type}(m:DM α):(m>>=fun a=>(Pure.pure a:DM α))=m:=by
 funext M
 show DM.bind m _ M=m M
 unfold DM.bind
 cases m M with
 |none=>rfl
 |some r=>obtain⟨r,M'⟩:=r;cases r<;>rfl
def iD:Option D->List D->Option D
 |x,[]=>x
 |_,d::ds=>iD (some d) ds
theorem kZ:∀ (as bs:List Int),PyData.eqvAll (as.map .int) (bs.map .int)=decide (as=bs)
 |[],[]=>by simp[PyData.eqvAll]
 |[],b::bs=>by simp[PyData.eqvAll]
 |a::as,[]=>by simp[PyData.eqvAll]
 |a::as,b::bs=>by
   rw[List.map_cons,List.map_cons]
   simp only[PyData.eqvAll,PyData.eqv,kZ as bs]
   by_cases h:a=b<;>by_cases h2:as=bs<;>simp[h,h2]
theorem jW:∀l:List Int,dG (l.map D.int)=some (l.map PyData.int)
 |[]=>rfl
 |i::l=>by simp[dG,toPy,jW l]
theorem lay_ints:∀l:List Int,PyData.canLayAll0 (l.map PyData.int)=true
 |[]=>rfl
 |i::l=>by simp[PyData.canLayAll0,PyData.canLay0,lay_ints l]
theorem jF:∀ l:List Int,PyData.depthAll (l.map PyData.int)≤1
 |[]=>by simp[PyData.depthAll]
 |i::l=>by
   have:=jF l
   simp only[List.map_cons,PyData.depthAll,PyData.depth]
   omega
@[simp] theorem Gk(i j:Int):(rd (b8 (.int i) (.int j)):DM D)=Pure.pure (.bl (decide (i=j))):=aX fun M=>by
 simp[b8,eqB,eqP,toPy,PyData.canLay0,PyData.depth,PyData.eqv]
 rw[Bool.eq_iff_iff];simp
@[simp] theorem Gq(i j:Int):(rd (cR (.int i) (.int j)):DM D)=Pure.pure (.bl (!decide (i=j))):=aX fun M=>by
 simp[cR,eqB,eqP,toPy,PyData.canLay0,PyData.depth,PyData.eqv]
 rw[Bool.eq_iff_iff];simp
@[simp] theorem Ij(i j:Str):(rd (b8 (.str i) (.str j)):DM D)=Pure.pure (.bl (decide (i=j))):=id rfl
@[simp] theorem Gr(i j:Str):(rd (cR (.str i) (.str j)):DM D)=Pure.pure (.bl (!decide (i=j))):=id rfl
theorem sy(a b:List Int):eqB (.tup (a.map D.int)) (.tup (b.map D.int))=some (decide (a=b)):=by
 have:=jF a
 have h:∀n,n≤1->1+n≤60:=fun n h=>by omega
 simp only[eqB,eqP,toPy,jW,Option.map_some,PyData.canLay0,lay_ints,PyData.depth,PyData.eqv,kZ]
 simp
 omega
theorem jk(l:List Nat):nT l=.tup ((l.map fun n:Nat=>(n:Int)).map D.int):=by simp[nT,nD,Function.comp_def]
theorem nA{a b:List Nat}:(a.map fun n:Nat=>(n:Int))=(b.map fun n:Nat=>(n:Int)) ↔ a=b:=List.map_inj_right fun x y (h:(x:Int)=(y:Int))=>by omega
@[simp] theorem Ii(a b:List Nat):(rd (b8 (nT a) (nT b)):DM D)=Pure.pure (.bl (decide (a=b))):=aX fun M=>by
 rw[jk,jk,b8,sy];simp[nA]
@[simp] theorem Ik(a b:List Nat):(rd (cR (nT a) (nT b)):DM D)=Pure.pure (.bl (!decide (a=b))):=aX fun M=>by
 rw[jk,jk,cR,sy];simp[nA]
theorem uV:∀l:List Bool,eU (l.map D.bl)=some l
 |[]=>rfl
 |b::l=>by simp[eU,zX,uV l]
@[simp] theorem pJ(l:List Bool):(rd (iM [.lst (l.map D.bl)]):DM D)=Pure.pure (.bl (l.all id)):=aX fun M=>by
 simp[iM,aQ,uV]
theorem yK:∀ l:List Nat,eU (l.map nD)=some (l.map fun n=>n != 0)
 |[]=>rfl
 |b::l=>by
   simp only[List.map_cons,eU,yK l,nD,zX]
   congr 2
   rw[Bool.eq_iff_iff];simp
@[simp] theorem HW(l:List Nat):(rd (Cp [nT l]):DM D)=Pure.pure (.bl (l.any (·!= 0))):=aX fun M=>by
 simp[Cp,nT,yK,List.any_map]
theorem bY{d:D}{t c:String}(h:∀M,tyOf d M=some t)(hc:tys.contains c=true):(rd (eE [d,.ty c]):DM D)=Pure.pure (.bl (ww t c)):=aX fun M=>by
 simp only[eE,h M,Option.bind_some,hc,if_true]
@[simp] theorem tO(b:Bool):(rd (lW (.bl b)):DM Bool)=Pure.pure b:=id rfl
def zV(d:D):Prop:=∃s,(rd (eG [d]):DM D)=Pure.pure (.str s)
theorem BX{d:D}{p:PyData}(h:toPy d=some p)(h1:p.showable=true)(h2:p.depth≤60)(h3:bB p≤sizeLine):zV d:=⟨p.shown,aX fun M=>by
 simp[eG,lF,h,h1,h2,h3]⟩
theorem lV {l:List Int} (h:∀ i∈l,i.natAbs<2 ^ 1000):PyData.showableAll (l.map PyData.int)=true:=by
 induction l with
 |nil=>rfl
 | cons i l ih=>
   have h0:=h i (by simp)
   have:i.natAbs.log2<1920:=by
    rcases Nat.eq_zero_or_pos i.natAbs with z | z
    ·rw[z];decide
    ·exact Nat.lt_of_lt_of_le ((Nat.log2_lt (by omega)).mpr h0) (by decide)
   simp[PyData.showableAll,PyData.showable,this,ih fun i hi=>h i (by simp[hi])]
theorem rP:∀l:List Int,dq (l.map PyData.int)=1923*l.length
 |[]=>rfl
 |i::l=>by simp only[List.map_cons,dq,bB,rP l,List.length_cons];omega
@[simp] theorem Ib(l m:List D):Hz [.tup l,.tup m]=some (.fix (pairs l m)):=id rfl
def Rn{α:Type}(m:DM α)(M:Mo)(Q:α->Mo->Prop):Prop:=∃a M',m M=some (.ok a,M')∧Q a M'
theorem Rn.bind{α β:Type}{m:DM α}{f:α->DM β}{M:Mo}{Q1:α->Mo->Prop}{Q:β->Mo->Prop}(h:Rn m M Q1)(k:∀a M',Q1 a M'->Rn (f a) M' Q):Rn (m>>=f) M Q:=by
 obtain⟨a,M',e,q⟩:=h
 obtain⟨b,M2,e2,q2⟩:=k a M' q
 refine⟨b,M2,?_,q2⟩
 show DM.bind m f M=_
 unfold DM.bind
 rw[e];exact e2
theorem Rn.pure{α:Type}{a:α}{M:Mo}{Q:α->Mo->Prop}(q:Q a M):Rn (Pure.pure a) M Q:=⟨a,M,rfl,q⟩
theorem Rn.mono{α:Type}{m:DM α}{M:Mo}{Q R:α->Mo->Prop}(h:Rn m M Q)(k:∀a M',Q a M'->R a M'):Rn m M R:=by
 obtain⟨a,M',e,q⟩:=h
 exact⟨a,M',e,k a M' q⟩
theorem Rn.rd{α:Type}{f:Mo->Option α}{M:Mo}{a:α}{Q:α->Mo->Prop}(h:f M=some a)(q:Q a M):Rn (L3.rd f) M Q:=⟨a,M,by unfold L3.rd;rw[h];rfl,q⟩
theorem Rn.bindRd{α β:Type}{f:Mo->Option α}{k:α->DM β}{M:Mo}(a:α){Q:β->Mo->Prop}(h:f M=some a)(q:Rn (k a) M Q):Rn (L3.rd f>>=k) M Q:=Rn.bind (Rn.rd h (Q:=fun b M'=>b=a∧M'=M) ⟨rfl,rfl⟩) (fun b M' ⟨e1,e2⟩=>by rw[e1,e2];exact q)
theorem Rn.call{p n:Nat}{fb:aa->DM Fl}{ds:List D}{M:Mo}{Q:D->Mo->Prop}(hp:ds.length=p)(h:Rn (fb (dU n ds)) M fun r M'=>∃d,r=.rt d∧Q d M'):Rn (aP p n fb ds) M Q:=by
 unfold aP
 rw[if_pos hp]
 refine Rn.bind h fun r M' ⟨d,e,q⟩=>?_
 subst e
 exact Rn.pure q
structure Sb(p:Nat)(M M':Mo):Prop where
 le:M.length≤M'.length
 keep:∀q,q≠p->q<M.length->M'[q]?=M[q]?
theorem Sb.refl{p:Nat}{M:Mo}:Sb p M M:=⟨Nat.le_refl _,fun _ _ _=>rfl⟩
theorem Sb.trans{p:Nat}{M M1 M2:Mo}(h:Sb p M M1)(k:Sb p M1 M2):Sb p M M2:=⟨Nat.le_trans h.le k.le,fun q hq hl=>(k.keep q hq (Nat.lt_of_lt_of_le hl h.le)).trans (h.keep q hq hl)⟩
theorem Sb.set{p:Nat}{M:Mo}{o:DO}:Sb p M (M.set p o):=⟨by simp,fun q hq hl=>List.getElem?_set_ne (fun z=>hq z.symm)⟩
theorem Sb.push{p:Nat}{M:Mo}{o:DO}:Sb p M (M++[o]):=⟨by simp,fun q hq hl=>List.getElem?_append_left hl⟩
theorem Sb.at{p q:Nat}{M M':Mo}{o:DO}(h:Sb p M M')(hq:q≠p)(e:M[q]?=some o):M'[q]?=some o:=(h.keep q hq (List.getElem?_eq_some_iff.mp e).1).trans e
theorem Sb.new{p q:Nat}{M M':Mo}(h:M'.length=M.length∨M.length≤M'.length)(hq:M.length≤q){M2:Mo}(k:Sb q M' M2)(h1:Sb p M M'):Sb p M M2:=⟨Nat.le_trans h1.le k.le,fun r hr hl=>(k.keep r (by omega) (Nat.lt_of_lt_of_le hl h1.le)).trans (h1.keep r hr hl)⟩
def cG(p:Nat)(M:Mo):Prop:=∃v:Nat,M[p]?=some (.lst [nD v])
theorem cG.lt{p:Nat}{M:Mo}(h:cG p M):p<M.length:=by obtain⟨v,e⟩:=h;exact (List.getElem?_eq_some_iff.mp e).1
theorem cG.sb{p q:Nat}{M M':Mo}(h:cG p M)(s:Sb q M M')(hq:p≠q):cG p M':=by obtain⟨v,e⟩:=h;exact⟨v,s.at hq e⟩
theorem Bk{l:List D}{M:Mo}(h:l.length≤1000000):cH l M=some (.ok (.ref M.length),M++[.lst l]):=by
 have:dg l=true:=by unfold dg;exact decide_eq_true (by show l.length≤2^24;omega)
 unfold cH
 rw[if_pos this]
theorem Rn.cH{l:List D}{M:Mo}{β:Type}{k:D->DM β}{Q:β->Mo->Prop}(h:l.length≤1000000)(q:Rn (k (.ref M.length)) (M++[.lst l]) Q):Rn (L3.cH l>>=k) M Q:=Rn.bind ⟨_,_,Bk h,(⟨rfl,rfl⟩:D.ref M.length=.ref M.length∧M++[.lst l]=M++[.lst l])⟩ (Q1:=fun a M'=>a=.ref M.length∧M'=M++[.lst l]) (fun a M' ⟨e1,e2⟩=>by rw[e1,e2];exact q)
theorem xx{n:Nat}{M:Mo}{l:List D}{i:Nat}{a:D}(h:M[n]?=some (.lst l))(hi:l[i]?=some a):gP (.ref n) (.int (i:Int)) M=some a:=by
 show (aQ (.ref n) M).bind _=_
 simp only[aQ,h,Option.bind_some]
 exact oM hi
theorem xu{n i:Nat}(h:i<n):ixN n (i:Int)=some i:=by
 unfold ixN
 rw[if_pos (by omega),if_pos (by omega)];simp
theorem mJ{n:Nat}{M:Mo}{l:List D}{i:Nat}{v:D}(h:M[n]?=some (.lst l))(hi:i<l.length):vX (.ref n) (.int (i:Int)) v M=some (.ok (),M.set n (.lst (l.set i v))):=by
 delta vX
 dsimp only
 rw[h]
 dsimp only
 rw[xu hi]
theorem uh{n:Nat}{M:Mo}{l:List D}{v:D}(h:M[n]?=some (.lst l))(hl:l.length<1000000):yQ (.ref n) [v] M=some (.ok .non,M.set n (.lst (l++[v]))):=by
 have:l.length<sizeLine:=by show l.length<2^24;omega
 delta yQ
 dsimp only
 rw[h]
 dsimp only
 rw[if_pos this]
theorem Rn.run{α β:Type}{m:DM α}{k:α->DM β}{M M':Mo}{a:α}{Q:β->Mo->Prop}(h:m M=some (.ok a,M'))(q:Rn (k a) M' Q):Rn (m>>=k) M Q:=Rn.bind (Q1:=fun b M2=>b=a∧M2=M') ⟨a,M',h,rfl,rfl⟩ (fun b M2 ⟨e1,e2⟩=>by rw[e1,e2];exact q)
theorem gM {tg:D->aa->DM aa}{fb:aa->DM Fl} (I:Nat->aa->Mo->Prop):∀ (ds:List D) (i:Nat) (δ:aa) (M:Mo),I i δ M->(∀ j d δ M,ds[j]?=some d->I (i + j) δ M->Rn (tg d δ >>= fb) M fun r M'=>∃ δ',r=.nx δ'∧I (i + j + 1) δ' M')->Rn (forL tg fb ds δ) M fun r M'=>∃ δ',r=.nx δ'∧I (i + ds.length) δ' M'
 |[],i,δ,M,h,_=>Rn.pure ⟨δ,rfl,h⟩
 | d::ds,i,δ,M,h,st=>by
   have s:=st 0 d δ M rfl h
   have e:forL tg fb (d::ds) δ=(tg d δ>>=fb)>>=fun r=>match r with
    |.nx δ2=>forL tg fb ds δ2
    |.ct δ2=>forL tg fb ds δ2
    |.bk δ2=>Pure.pure (.nx δ2)
    |.rt d=>Pure.pure (.rt d):=by rw[aF];rfl
   rw[e]
   refine Rn.bind s fun r M' ⟨δ',e,h'⟩=>?_
   subst e
   have ih:=gM I ds (i+1) δ' M' h' (fun j d δ M hj hI=>by
    have:=st (j+1) d δ M (by simpa using hj) (by rw[show i+(j+1)=i+1+j by omega];exact hI)
    rw[show i+1+j+1=i+(j+1)+1 by omega];exact this)
   rw[show i+(d::ds).length=i+1+ds.length by simp;omega]
   exact ih
end L3
namespace L3
open PySem PySem.Spec L2
open PyProof.Rows hiding St
theorem zb {X:Cx}{E:XK}{i:Nat}{x:Str}{px spos:Pos}{scope:Scope}{cl:List (Str×Addr)}{own:List Str}{js:List Nat}{fr:List Str}{elt t0 i0:Expr}{f0:List Expr}{gs:List Comprehension}{pos:Pos}{fi:aa->DM Itn}{fg:D->aa->DM aa}{ft:aa->DM Bool}{fb:aa->List D->DM (aa×List D)}
  {bodyK:Cx->Addr->Sem Fin->Sem Fin}{W:Cx->Addr->(Shared->Prop)->Shared->Prop} (o:Out) (hN:X.N.Nodup) (hi0:X.N[i]?=some x) (hx:Loc X.env.scope x) (hc:X.calm=true) (T:CompG X scope cl own js fr) (hi:DI X E t0 i0 fi)
  (hturn:∀(Y:Cx) it acc,compTurn (.ListComp elt (⟨t0,i0,f0,0⟩::gs) scope pos) 0 (.ref it) (.ref acc) Y.env=turnOf ⟨t0,i0,f0,0⟩ (bodyK Y acc) (.compLoop (.ListComp elt (⟨t0,i0,f0,0⟩::gs) scope pos) 0 (.ref it) (.ref acc) Y.env) (.ref it) Y.env)
  (hW:∀Y acc,oH Y.prog Y.w Y.A (bodyK Y acc) (W Y acc)) (hmono:∀Y acc P P' s,(∀s,P s->P' s)->W Y acc P s->W Y acc P' s)
  (hg:∀pins m fp C s₂ H₂,DG (X.bf pins scope (cellsFrom m scope.names cl) (own++fr) fp C s₂ H₂) E0 t0 fg) (ht:∀pins m fp C s₂ H₂,DTs (X.bf pins scope (cellsFrom m scope.names cl) (own++fr) fp C s₂ H₂) E0 f0 ft)
  (hb:∀pins m fp C s₂ H₂ acc,BodyOk (X.bf pins scope (cellsFrom m scope.names cl) (own++fr) fp C s₂ H₂) acc (W (X.bf pins scope (cellsFrom m scope.names cl) (own++fr) fp C s₂ H₂) acc) fb)
  (hsw:swapsWith (.ListComp elt (⟨t0,i0,f0,0⟩::gs) scope pos) (some (.Name x px)) spos.line X.env=pure true:=by rfl)
  (hs:∀y,foldedSetIterable i0 X.env y=pure y:=by intro _;rfl) (hf:X.fn x=true∨X.env.scope.names.lookup x=some .local:=by first | exact .inl rfl | exact .inr rfl | assumption) :
  DS X E (.Assign [.Name x px] (.ListComp elt (⟨t0,i0,f0,0⟩::gs) scope pos) spos) (fun δ=>(fi δ>>=fun it=>cN (cI fg ft fb it (aZ own.length js δ) [])>>=fun p=>o.run p.2)>>=fun d=>pure (.nx (δ.set i (some d)))):=⟨by
 intro pins s σ H D I h
 obtain⟨ρ,δ,M,ev,j,g0⟩:=h
 let Q:VK:=fun v H'=>D.nx (σ.set i (some v)) H'
 have g1:Go X.mg E (Cv X.mg) Q ρ H (fi δ>>=fun it=>cN (cI fg ft fb it (aZ own.length js δ) [])>>=fun p=>o.run p.2) M:=g0.bind fun ρ1 H1 M1 v d e1 j1 c1 g2=>g2.pure ρ1 H1 _ .refl j1 ((ev.mono e1).set c1)
 rw[exec_Assign_Name_used _ _ _ _ hsw]
 refine wpAny_bind (wpAny_standAt (wpAny_bind ?_))
 show wpAny _ _ (do let _ ←comprehension (.ListComp elt (⟨t0,i0,f0,0⟩::gs) scope pos) scope X.env _ (newList []) false (eval i0 X.env) (some (assign (.Name x px) X.env))) _ _ s
 refine wpAny_bind (wpAny_mono (wpAny_comprehension_free (cl:=cl) (use:=some (assign (.Name x px) X.env)) (Q:=fun _ s'=>∃v H',Inv X pins (σ.set i (some v)) H' s'∧Q v H') rfl hs T.clos T.kind T.names ?_) (fun _ s' ⟨v,H',I',q'⟩=>wpAny_pure (wpAny_pure ⟨_,H',I',q'⟩)) fun _ _ e=>e)
 refine thn (hi.h pins s σ H (fun Jt H1=>∃ρ1 M1 it,Ext ρ H ρ1 H1∧J X.mg ρ1 M1 H1∧ItOk X.mg ρ1 H1 Jt it∧Go X.mg E (Cv X.mg) Q ρ1 H1 (cN (cI fg ft fb it (aZ own.length js δ) [])>>=fun p=>o.run p.2) M1) I
  ⟨ρ,δ,M,ev,j,g1.bind fun ρ1 H1 M1 Jt it e1 j1 iok g2=>⟨ρ1,M1,it,e1,j1,iok,g2⟩⟩) fun v s1 h1=>thn h1 fun itv s2 h2=>?_
 obtain⟨it,fp,tn,Jt,H2,rfl,I2,Tn,st2,f2,ρ1,M1,itn,x1,j1,iok,g2⟩:=h2
 have hrun:∃δf lf Mf,cI fg ft fb itn (aZ own.length js δ) [] M1=some (.ok (δf,lf),Mf)∧Go X.mg E (Cv X.mg) Q ρ1 H2 (o.run lf) Mf:=by
  obtain⟨r,e,p⟩:=g2
  have e:DM.bind _ _ M1=some r:=e
  unfold DM.bind at e
  split at e
  ·cases e
  ·rename_i c M' em
   obtain⟨a,M'',_,z⟩:=jm em
   cases z
  ·rename_i a M' em
   obtain⟨a',M'',e1,z⟩:=jm em
   cases z
   exact⟨a.1,a.2,M',e1,r,e,p⟩
 obtain⟨δf,lf,Mf,hrun,g3⟩:=hrun
 unfold newList
 refine wpAny_newObj_type (qQ ?_)
 have hlt:∀b∈fp,b<s2.heap.objs.size:=fun b hb=>by
  obtain⟨o,e,_⟩:=Tn.obj _ _ st2 b hb
  exact Heap.lt_size e
 dsimp only
 generalize hP:s2.heap.push { cls:=.type "list",dict:=none,data:=.seq ([]:List Value).toArray }=hp1
 have hCs:hp1.objs.size=s2.heap.objs.size+1:=by rw[←hP,Heap.size_push]
 have hCe:hp1.objs.size+1=(hp1.push { cls:=.type "dict",data:=.dict #[] }).objs.size:=by rw[Heap.size_push]
 have hC:s2.heap.objs.size≤hp1.objs.size:=by omega
 have hne:hp1.objs.size≠s2.heap.objs.size:=by omega
 have old1:∀b o,s2.heap.get? b=some o->hp1.get? b=some o:=fun b o e=>by rw[←hP];exact Heap.get?_push_of_some _ e
 have old:∀b o,s2.heap.get? b=some o->(pushCells (hp1.push { cls:=.type "dict",data:=.dict #[] }) scope.names).get? b=some o:=fun b o e=>pushCells_keeps _ _ _ _ (Heap.get?_push_of_some _ (old1 b o e))
 have new:∃n,(pushCells (hp1.push { cls:=.type "dict",data:=.dict #[] }) scope.names).get? s2.heap.objs.size=some { cls:=.type "list",data:=.seq #[] n }:=⟨_,pushCells_keeps _ _ _ _ (Heap.get?_push_of_some _ (by rw[←hP];exact Heap.get?_push_size _ rfl))⟩
 have ns:(pushCells (hp1.push { cls:=.type "dict",data:=.dict #[] }) scope.names).Ns hp1.objs.size fun _=>none:=(Heap.Ns.new hp1 (.type "dict")).keeps (pushCells_keeps _ _)
 have hfree:H2 s2.heap.objs.size=none:=I2.hok.fresh (Nat.le_refl _)
 have IC:=qK (t':=s2.toks) T I2 f2 hlt old (Nat.le_refl _) hC hne hCe (Nat.le_trans hC (Nat.le_succ _)) (Nat.lt_succ_self _) (Nat.lt_succ_of_le hC) rfl new ns
 have OK:=IC.ok
 have fok:∀H',(∀b∈fp,H' b=none)->∀b∈fp,FpOk (X.bf pins scope (cellsFrom (hp1.objs.size+1) scope.names cl) (own++fr) fp hp1.objs.size s2 H2) [] H' b:=fun H' hn b hb=>by
  obtain⟨_,g2,g3,g4,g5,g6⟩:=f2 b hb
  refine⟨hn b hb,Nat.ne_of_lt (Nat.lt_of_lt_of_le (hlt b hb) hC),fun hm=>?_,.inl hb,(OK.exf b hb).2,fun p hp=>g6 p (by simpa using hp)⟩
  rcases List.mem_cons.mp (I2.stkSub _ hm) with z | z
  ·exact g2 z
  ·exact g3 z
 have fp1:∀b∈fp,upd H2 s2.heap.objs.size (.lst []) b=none:=fun b hb=>by rw[upd_ne (Nat.ne_of_lt (hlt b hb))];exact (f2 b hb).1
 have jb:=j1.begin hfree
 have nf:=j1.fresh hfree
 have st:Cst (X.bf pins scope (cellsFrom (hp1.objs.size+1) scope.names cl) (own++fr) fp hp1.objs.size s2 H2) [] s2.heap.objs.size (ρ1.hold s2.heap.objs.size) (upd H2 s2.heap.objs.size (.lst [])) (aZ own.length js δ) [] M1 fp
   { s2 with heap:=pushCells (hp1.push { cls:=.type "dict",data:=.dict #[] }) scope.names,toks:=s2.toks }:=
  ⟨_,_,_,[],IC,.refl (fun z=>nf (.inl z)),jb,(uw (ev.mono x1) _ _).kp (jJ hfree),upd_same,.nil,fp1⟩
 have tn0:tn 0 (pushCells (hp1.push { cls:=.type "dict",data:=.dict #[] }) scope.names):=Tn.keep _ _ _ st2 (fun b _ o e=>old b o e)
 have loop:codeAny (model X.prog X.w) X.A (.compLoop (.ListComp elt (⟨t0,i0,f0,0⟩::gs) scope pos) 0 (.ref it) (.ref s2.heap.objs.size) (compEnvC scope (cellsFrom (hp1.objs.size+1) scope.names cl) hp1.objs.size X.env))
   (compPost (model X.prog X.w) X.A X.xe (some (assign (.Name x px) X.env)) (fun _ s'=>∃v H',Inv X pins (σ.set i (some v)) H' s'∧Q v H') (.ref s2.heap.objs.size) hp1.objs.size) { s2 with heap:=pushCells (hp1.push { cls:=.type "dict",data:=.dict #[] }) scope.names,toks:=s2.toks }:=by
  refine xH (X:=X.bf pins scope (cellsFrom (hp1.objs.size+1) scope.names cl) (own++fr) fp hp1.objs.size s2 H2) hc rfl (hturn _ _ _) (hW _ _) (hmono _ _) (hg ..) (ht ..) (hb pins (hp1.objs.size+1) fp hp1.objs.size s2 H2 s2.heap.objs.size) Tn iok (.head _) (jJ hfree) fok st tn0 hrun fun s' c'=>?_
  obtain⟨σ4,H4,ρ4,ys,I4,x4,j4,ev4,ha4,cl4,fr4⟩:=c'.ex
  obtain⟨m4,hn4,_⟩:=I4.loc
  have hsb0:Heap.SameBut hp1.objs.size s'.heap s'.heap:=⟨rfl,fun _ _=>rfl⟩
  have un:=yM I4.base hsb0 hC
  have ok4:=uy I4.hok hsb0 I4.free
  have IO:Inv X pins σ H4 s':=I2.call' (s':=s') (ch:=fp) (I4.os) un ok4 I4.bare (fun b hb=>by
   obtain⟨_,g2,g3,g4,g5,g6⟩:=f2 b hb
   exact⟨g4,g2,g5,g6⟩)
  have fC:FpOk X pins H4 hp1.objs.size:=I2.fpOk hC I4.free
  obtain⟨fC1,fC2,fC3,fC4,fC5,fC6⟩:=fC
  show wpAny _ _ (assign (.Name x px) X.env (.ref s2.heap.objs.size)) _ _ s'
  refine wpAny_assign_Name (store_ok2 IO hN hi0 hx (v:=.ref s2.heap.objs.size) rfl (fun s'' I'' hsb=>?_) hf)
  obtain⟨a,sb,ha⟩:=hsb
  have nC:hp1.objs.size≠a:=by
   rcases ha with z | z
   ·rw[z];exact fC2
   ·exact fun e=>fC5 x a z e.symm
  refine⟨m4,hn4.sameBut sb nC,fun h' hsb'=>⟨.ref s2.heap.objs.size,H4,?_,o.fin hfree nf x4 j4 ha4 cl4 g3⟩⟩
  exact I''.turned (it:=hp1.objs.size) (t':=s''.toks) (fun b o hb e=>hsb'.extBut b o hb e) fC1 fC2 fC4 (fun y c e=>fC5 y c e) fC6
 show codeAny _ _ (.compStart _ 0 (.ref it) (.ref s2.heap.objs.size) (compEnvC scope (cellsFrom (hp1.objs.size+1) scope.names cl) hp1.objs.size X.env)) _ _
 exact qR rfl rfl loop (Tn.self X.A 0 _ _ _ tn0 loop)⟩
theorem nH{X:Cx}{E:XK}{i:Nat}{x:Str}{px spos:Pos}{scope:Scope}{cl:List (Str×Addr)}{own:List Str}{js:List Nat}{fr:List Str}{elt t0 i0:Expr}{f0:List Expr}{pos:Pos}{fi:aa->DM Itn}{fg:D->aa->DM aa}{ft:aa->DM Bool}{fe:aa->DM D}
  (o:Out) (hN:X.N.Nodup) (hi0:X.N[i]?=some x) (hx:Loc X.env.scope x) (hc:X.calm=true) (T:CompG X scope cl own js fr) (hi:DI X E t0 i0 fi)
  (hg:∀pins m fp C s₂ H₂,DG (X.bf pins scope (cellsFrom m scope.names cl) (own++fr) fp C s₂ H₂) E0 t0 fg) (ht:∀pins m fp C s₂ H₂,DTs (X.bf pins scope (cellsFrom m scope.names cl) (own++fr) fp C s₂ H₂) E0 f0 ft)
  (he:∀pins m fp C s₂ H₂,DE (X.bf pins scope (cellsFrom m scope.names cl) (own++fr) fp C s₂ H₂) E0 elt fe)
  (hsw:swapsWith (.ListComp elt [⟨t0,i0,f0,0⟩] scope pos) (some (.Name x px)) spos.line X.env=pure true:=by rfl)
  (hs:∀y,foldedSetIterable i0 X.env y=pure y:=by intro _;rfl) (hf:X.fn x=true∨X.env.scope.names.lookup x=some .local:=by first | exact .inl rfl | exact .inr rfl | assumption) :
  DS X E (.Assign [.Name x px] (.ListComp elt [⟨t0,i0,f0,0⟩] scope pos) spos) (fun δ=>(fi δ>>=fun it=>cN (cI fg ft (bR fe) it (aZ own.length js δ) [])>>=fun p=>o.run p.2)>>=fun d=>pure (.nx (δ.set i (some d)))):=
 zb (bodyK:=fun Y acc=>o4 elt (.ref acc) Y.env) (W:=fun Y acc P s=>wpAny (model Y.prog Y.w) Y.A (eval elt Y.env) (fun x s1=>wpAny (model Y.prog Y.w) Y.A (call (.builtin "list.append") [.ref acc,x]) (fun _ s2=>P s2) (fun _ _=>False) s1) (fun _ _=>False) s) o hN hi0 hx hc T hi
  (fun Y it acc=>Aq ..) (fun Y acc=>wY) (fun Y acc P P' s hp h=>wpAny_mono h (fun x s1 h1=>wpAny_mono h1 (fun _ s2 h2=>hp _ h2) fun _ _ z=>z) fun _ _ z=>z) hg ht (fun pins m fp C s₂ H₂ acc=>uv rfl (he ..)) hsw hs hf
end L3
namespace L3
open PySem PySem.Spec L2
structure OCls(K:PySem.W.Frag)(mg:Str->Option Value)(c:Str)(C:Addr)(fs:List Str):Prop where
 at_:mg c=some (.ref C)
 cls:L2.Cls K C
 no:∀f∈fs,NoAttr K C f
theorem nR {mg:Str->Option Value}{ρ:Rh}{H:Hp}{f:Str}:∀ {ns:List Str}{xs:List V}{ds:List D}{d:D},Cvs mg ρ H xs ds->(ns.zip ds).lookup f=some d->∃ v,(ns.zip xs).lookup f=some v∧Cv mg ρ H v d
 |[],_,_,_,_,e=>by simp at e
 |n::ns,_,_,_,.nil,e=>by simp at e
 |n::ns,_,_,d,.cons (v:=v) c cs,e=>by
   rw[List.zip_cons_cons,List.lookup_cons] at e ⊢
   split at e
   ·cases e;exact⟨v,rfl,c⟩
   ·exact nR cs e
def nO (c f:Str):D->Mo->Option D
 |.obj k ns vs,_=>if k=c then (ns.zip vs).lookup f else none
 |.ref n,M=>match M[n]? with
   |some (.ins k ns vs)=>if k=c then (ns.zip vs).lookup f else none
   |_=>none
 |_,_=>none
theorem jc {X:Cx}{E:XK}{K:PySem.W.Frag}{mg:Str->Option Value}{c f:Str}{C:Addr}{fs:List Str}{e:Expr}{fe:aa->DM D}{pos:Pos} (O:OCls K mg c C fs) (hf:f∈fs) (he:DE X E e fe)
  (hb:attributeBase e f X.env (eval e X.env)=eval e X.env:=by rfl) (hK:X.K=K:=by rfl) (hM:X.mg=mg:=by rfl):DE X E (.Attribute e f pos) (fun δ=>fe δ>>=fun x=>rd (nO c f x)):=by
 subst hK hM
 refine⟨PE.mono (pe_fld he.h hb) fun σ H Q h=>?_⟩
 obtain⟨ρ,δ,M,ev,j,g1⟩:=h
 refine⟨ρ,δ,M,ev,j,g1.bind fun ρ1 H1 M1 x dx e1 j1 c1 g2=>?_⟩
 obtain⟨d,ed,q⟩:=g2.rd
 unfold nO at ed
 split at ed
 ·split at ed
  ·rename_i hk
   subst hk
   cases c1 with
   |obj n m h l cs=>
     obtain⟨v,hv,cv⟩:=nR cs ed
     rw[O.at_] at m;cases m
     exact⟨_,_,_,_,v,rfl,h,O.cls,O.no f hf,hv,q ρ1 H1 _ .refl j1 cv⟩
  ·cases ed
 ·split at ed
  ·split at ed
   ·rename_i hm hk
    subst hk
    cases c1 with
    |ref hn=>
      obtain⟨C',dx',xs,m,h,l,cs⟩:=j1.obj _ _ _ hn hm
      obtain⟨v,hv,cv⟩:=nR cs ed
      rw[O.at_] at m;cases m
      exact⟨_,_,_,_,v,rfl,h,O.cls,O.no f hf,hv,q ρ1 H1 _ .refl j1 cv⟩
   ·cases ed
  ·cases ed
 ·cases ed
def vG:List D->Mo->Option (List D)
 |[.int j],_=>if -(2^62)≤j∧j≤2^20 then some ((List.range j.toNat).map nD) else none
 |_,_=>none
theorem um{mg:Str->Option Value}{ρ:Rh}{H:Hp}:∀l:List Nat,Cvs mg ρ H (l.map fun i:Nat=>V.int (i:Int)) (l.map nD)
 |[]=>.nil
 |n::l=>.cons (.int _) (um l)
section
variable{X:Cx}{E:XK}{a:Expr}{fa:aa->DM (List D)}{p1 p2 pos1 pos2:Pos}
theorem wU (hc:X.calm=true) (hmL:X.mg "list"=none) (hm:X.mg "range"=none) (ha:DA X E [a] fa) (hgL:Gl X "list":=by rfl) (hg:Gl X "range":=by rfl) (hs:notStar a=true:=by rfl) :
  DE X E (.Call (.Name "list" p1) [.Call (.Name "range" p2) [a] [] pos2] [] pos1) (fun δ=>fa δ>>=fun l=>rd (fun M=>(vG l M).map D.lst)):=⟨PE.mono (xU hc hgL hmL hg hm ha.h.h hs) fun σ H Q h=>by
 obtain⟨ρ,δ,M,ev,j,g1⟩:=h
 refine⟨ρ,δ,M,ev,j,g1.bind fun ρ1 H1 M1 xs ds e1 j1 c1 g2=>?_⟩
 obtain⟨d,ed,q⟩:=g2.rd
 obtain⟨l,el,rfl⟩:=Option.map_eq_some_iff.mp ed
 unfold vG at el
 split at el
 ·split at el
  ·rename_i hb
   cases el
   obtain⟨v,rfl,k⟩:=c1.one
   cases k
   exact⟨_,rfl,hb.2,hb.1,fun p hp=>q ρ1 _ _ (.lay hp) (j1.lay _ hp) (.lst (j1.fresh hp) upd_same (um _))⟩
  ·cases el
 ·cases el⟩
end
theorem qP {fg:D->aa->DM aa}{ft:aa->DM Bool}{fb:aa->List D->DM (aa×List D)} (I:Nat->aa->List D->Mo->Prop):∀ (ds:List D) (i:Nat) (δ:aa) (l:List D) (M:Mo),I i δ l M->
  (∀j d δ l M,ds[j]?=some d->I (i+j) δ l M->Rn (fg d δ>>=fun δ1=>ft δ1>>=fun b=>if b then fb δ1 l else Pure.pure (δ1,l)) M fun p M'=>I (i+j+1) p.1 p.2 M')->Rn (bA fg ft fb ds δ l) M fun p M'=>I (i+ds.length) p.1 p.2 M'
 |[],i,δ,l,M,h,_=>Rn.pure h
 | d::ds,i,δ,l,M,h,st=>by
   have s:=st 0 d δ l M rfl h
   have e:bA fg ft fb (d::ds) δ l=(fg d δ>>=fun δ1=>ft δ1>>=fun b=>if b then fb δ1 l else Pure.pure (δ1,l))>>=fun p=>bA fg ft fb ds p.1 p.2:=by
    rw[aF]
    show (fg d δ>>=fun δ1=>ft δ1>>=fun b=>(if b then fb δ1 l else Pure.pure (δ1,l))>>=fun p=>bA fg ft fb ds p.1 p.2)=_
    congr 1
    funext δ1
    rw[aF]
   rw[e]
   refine Rn.bind s fun p M' h'=>?_
   have ih:=qP I ds (i+1) p.1 p.2 M' h' (fun j d δ l M hj hI=>by
    have:=st (j+1) d δ l M (by simpa using hj) (by rw[show i+(j+1)=i+1+j by omega];exact hI)
    rw[show i+1+j+1=i+(j+1)+1 by omega];exact this)
   rw[show i+(d::ds).length=i+1+ds.length by simp;omega]
   exact ih
theorem wC{α:Type}{m:DM α}{M:Mo}{Q:α->Mo->Prop}(h:Rn m M Q):Rn (cN m) M Q:=by
 obtain⟨a,M',e,q⟩:=h
 exact⟨a,M',by unfold cN;rw[e],q⟩
theorem zE{n:Nat}{M:Mo}{β:Type}{k:D->DM β}{Q:β->Mo->Prop}(hn:n≤1000)(q:Rn (k (.ref M.length)) (M++[.lst ((List.replicate n 0).map nD)]) Q):Rn (Dr (.lst [.int 0]) (nD n)>>=k) M Q:=by
 have e:nU (.lst [.int 0]) (nD n) M=some ((List.replicate n 0).map nD):=by
  show vP [.int 0] (n:Int)=_
  unfold vP
  rw[if_pos (decide_eq_true ⟨by omega,by omega,by show _≤2^24;simp;omega⟩)]
  congr 1
  simp[List.flatten_replicate_singleton,nD]
 show Rn ((rd (nU (.lst [.int 0]) (nD n))>>=cH)>>=k) M Q
 rw[aF]
 refine Rn.bindRd _ e ?_
 exact Rn.cH (by simp;omega) q
end L3
namespace L3
open PySem PySem.Spec L2
open PyProof.Rows hiding St
def putN(f:Str):List Str->List Str
 |[]=>[f]
 |g::r=>if g=f then g::r else g::putN f r
def gQ{α:Type}(f:Str)(v:α):List Str->List α->List α
 |[],_=>[v]
 |g::r,x::xs=>if g=f then v::xs else x::gQ f v r xs
 |_::_,[]=>[]
theorem sY (f:Str) (v:V):∀ (ns:List Str) (xs:List V),ns.length=xs.length->putF f v (ns.zip xs)=(putN f ns).zip (gQ f v ns xs)
 |[],[],_=>rfl
 |g::r,x::xs,h=>by
   show putF f v ((g,x)::r.zip xs)=_
   unfold putF putN gQ
   by_cases e:g=f
   ·rw[if_pos e,if_pos e,if_pos e];rfl
   ·rw[if_neg e,if_neg e,if_neg e,sY f v r xs (by simpa using h)];rfl
theorem sZ {α:Type} (f:Str) (v:α):∀ (ns:List Str) (xs:List α),ns.length=xs.length->(putN f ns).length=(gQ f v ns xs).length
 |[],[],_=>rfl
 |g::r,x::xs,h=>by
   unfold putN gQ
   by_cases e:g=f
   ·rw[if_pos e,if_pos e];simpa using h
   ·rw[if_neg e,if_neg e,List.length_cons,List.length_cons,sZ f v r xs (by simpa using h)]
theorem Cvs.put {mg:Str->Option Value}{ρ:Rh}{H:Hp}{f:Str}{v:V}{d:D} (c:Cv mg ρ H v d):∀ (ns:List Str) {xs:List V}{ds:List D},Cvs mg ρ H xs ds->Cvs mg ρ H (gQ f v ns xs) (gQ f d ns ds)
 |[],_,_,_=>.cons c .nil
 |g::r,_,_,.nil=>.nil
 |g::r,_,_,.cons h t=>by
   unfold gQ
   by_cases e:g=f
   ·rw[if_pos e,if_pos e];exact .cons c t
   ·rw[if_neg e,if_neg e];exact .cons h (Cvs.put c r t)
def rE (c f:Str) (o d:D):DM Unit:=fun M=>match o with
 |.ref n=>match M[n]? with
   |some (.ins k ns vs)=>if k=c∧ns.length=vs.length∧ns.length<1000 then some (.ok (),M.set n (.ins k (putN f ns) (gQ f d ns vs))) else none
   |_=>none
 |_=>none
section
variable{X:Cx}{E:XK}
theorem wV {K:PySem.W.Frag}{mg:Str->Option Value}{c f:Str}{C:Addr}{fs:List Str}{o value:Expr}{fo fv:aa->DM D}{pos pos':Pos} (O:OCls K mg c C fs) (hf:f∈fs) (ho:DE X E o fo) (hv:DE X E value fv)
  (hs:swapsWith value (some (.Attribute o f pos')) pos.line X.env=pure false:=by rfl) (hK:X.K=K:=by rfl) (hM:X.mg=mg:=by rfl) :
  DS X E (.Assign [.Attribute o f pos'] value pos) (fun δ=>fv δ>>=fun d=>fo δ>>=fun o=>rE c f o d>>=fun _=>pure (.nx δ)):=by
 subst hK hM
 refine⟨PS.mono (ps_fld ho.h hv.h hs) fun D σ H h=>?_⟩
 obtain⟨ρ,δ,M,ev,j,g1⟩:=h
 refine⟨ρ,δ,M,ev,j,g1.bind fun ρ1 H1 M1 y dy e1 j1 c1 g2=>⟨ρ1,δ,M1,ev.mono e1,j1,g2.bind fun ρ2 H2 M2 x dx e2 j2 c2 g3=>?_⟩⟩
 obtain⟨r,e,p⟩:=g3
 have e:DM.bind _ _ M2=some r:=e
 unfold DM.bind rE at e
 cases dx with
 | ref n=>
   dsimp only at e
   cases c2 with | ref hn=>
   rename_i a
   cases hm:M2[n]? with
   |none=>rw[hm] at e;cases e
   | some u=>
     rw[hm] at e
     cases u with
     |lst l=>cases e
     |dic ks l=>cases e
     | ins k ns vs=>
       dsimp only at e
       split at e
       ·cases e
       ·rename_i he;split at he<;>cases he
       ·rename_i he
        split at he
        ·rename_i hk
         obtain⟨rfl,hl,hz⟩:=hk
         cases he
         cases e
         obtain⟨C',dx',xs,m,hx,l,cs⟩:=j2.obj _ _ _ hn hm
         rw[O.at_] at m;cases m
         have c1':=c1.mono e2
         have x:Ext ρ2 H2 ρ2 (upd H2 a (.ins C dx' (putF f y (ns.zip xs)))):=.upd (List.mem_of_getElem? hn)
         refine⟨a,C,dx',_,rfl,hx,O.cls,O.no f hf,?_,?_⟩
         ·rw[List.length_zip];omega
         refine p ρ2 _ σ x (j2.upd hn ?_) (((ev.mono e1).mono e2).mono x)
         refine⟨C,dx',gQ f y ns xs,O.at_,by rw[upd_same,sY f y ns xs l],sZ f y ns xs l,?_⟩
         exact (Cvs.put c1' ns cs).mono x
        ·cases he
 |_=>cases e
end
structure MethD(P:Program)(w:World)(K:PySem.W.Frag)(mg:Str->Option Value)(base:Heap)(k:Nat)(c x qual:Str)(st:Stmt)(ps:List Str)(F:List D->DM D):Prop where
 ex:∃C f fd,mg c=some (.ref C)∧FnOk P w K mg base (cM P w) k f fd ps (pN mg F)∧Fun K x qual st f fd∧PySem.W.findIn K (.ref C) x=some (some (.ref f))∧PySem.W.isFn K (.ref f)=true∧L2.Cls K C
section
variable{P:Program}{w:World}{K:PySem.W.Frag}{mg:Str->Option Value}{base:Heap}{k:Nat}{C:Addr}{c x qual:Str}{N ps:List Str}{st:Stmt}{fb:aa->DM Fl}{f:Addr}{fd:FuncData}{is:List Int}
theorem Hb (F:Fun K x qual st f fd) (S:FnScope N ps (defScope st))
  (hbody:∀(f:Addr) (cdv:Value) (A:Around) (outer:List Env) (s:Shared) (H:Hp) (E:XK),Room k (A.deeper (envOfC qual (defScope st) s.heap.objs.size f cdv))->
    DSs (bK P w K mg base N qual (defScope st) f cdv A outer s H E) E (defBody st) fb):FnOk P w K mg base (cM P w) (k+1) f fd ps (pN mg (aP ps.length N.length fb)):=by
 refine Hc F S (fun vs H Q E h=>?_) fun cdv A outer s H vs Q E hr h=>?_
 ·obtain⟨ρ,M,ds,c,j,g⟩:=h
  rw[c.len];exact (bu.aP g).1
 obtain⟨ρ,M,ds,c,j,g⟩:=h
 exact⟨_,(hbody f cdv A outer s H E hr).h,ρ,_,M,nJ c,j,(bu.aP g).2⟩
theorem MethAt.okD (T:MethAt K C x qual st) (m:mg c=some (.ref C)) (cl:L2.Cls K C) (S:FnScope N ps (defScope st))
  (hbody:∀(f:Addr) (cdv:Value) (A:Around) (outer:List Env) (s:Shared) (H:Hp) (E:XK),Room k (A.deeper (envOfC qual (defScope st) s.heap.objs.size f cdv))->
    DSs (bK P w K mg base N qual (defScope st) f cdv A outer s H E) E (defBody st) fb):MethD P w K mg base (k+1) c x qual st ps (aP ps.length N.length fb):=by
 obtain⟨f,fd,F,a,n⟩:=T.ex
 exact⟨C,f,fd,m,Hb F S hbody,F,a,n,cl⟩
end
structure ClsD(P:Program)(w:World)(K:PySem.W.Frag)(mg:Str->Option Value)(base:Heap)(k:Nat)(c:Str)(F:List D->DM D):Prop where
 ex:∃C ps sp,MethC P w K mg base k C "__init__" ps sp∧PySem.W.makesIn K C=true∧PySem.W.keepIn K (.ref C)=true∧mg c=some (.ref C) ∧
  ∀ρ M H vs ds Q E,Cvs mg ρ H vs ds->J mg ρ M H->Go mg E (Cv mg) Q ρ H (F ds) M->∀x dx,H x=none->H dx=none->dx≠x->sp (.ref x::vs) (upd (upd H dx (.own x)) x (.ins C dx [])) (fun v H2=>v=.non∧Q (.ref x) H2) E
theorem mj{X:Cx}{E:XK}{j k:Nat}{c:Str}{F:List D->DM D}{p pos:Pos}{e:Expr}{es:List Expr}{fs:aa->DM (List D)}(T:ClsD X.prog X.w X.K X.mg X.base j c F)(hr:Room k X.A)(hx:Passes (cM X.prog X.w) X E)(ha:DA X E (e::es) fs)(hjk:j+1≤k:=by decide)(hg:Gl X c:=by rfl)(hdb:(c==("__debug__":Str))=false:=by decide)
  (he:notStar e=true:=by rfl) (hpl:(backTo pos (starEach es X.env)).any (·.1)=false:=by rfl) :
  DE X E (.Call (.Name c p) (e::es) [] pos) (fun δ=>fs δ>>=F):=by
 obtain⟨C,ps,sp,G,mk,kc,m,h⟩:=T.ex
 refine⟨PE.mono (zN G mk kc m hr hx ha.h hjk hg hdb he hpl) fun σ H Q z=>?_⟩
 obtain⟨ρ,δ,M,ev,j,g1⟩:=z
 refine⟨ρ,δ,M,ev,j,g1.bind fun ρ1 H1 M1 xs dxs e1 j1 c1 g2=>fun x dx h1 h2 h3=>?_⟩
 rw[List.append_nil]
 exact h ρ1 M1 H1 xs dxs Q E c1 j1 g2 x dx h1 h2 h3
def G4(c:Str):DM D:=fun M=>some (.ok (.ref M.length),M++[.ins c [] []])
section
variable{mg:Str->Option Value}{ρ:Rh}{H:Hp}{k:Nat}{M':Mo}
mutual
theorem Cv.fz(hk:ρ.st.length=k):∀{v:V}{d:D},Cv mg ρ H v d->Fz M' k d d
 |_,_,.non=>.non
 |_,_,.bl b=>.bl b
 |_,_,.int i=>.int i
 |_,_,.str x=>.str x
 |_,_,.tup n h c=>.tup (Cvs.fz hk c)
 |_,_,.lst n h c=>.lst (Cvs.fz hk c)
 |_,_,.dic n h l c=>.dic (Cvs.fz hk c)
 |_,_,.obj n m h l c=>.obj (Cvs.fz hk c)
 |_,_,.scr n h=>.scr _
 |_,_,.ref h=>.old (by rw[←hk];exact (List.getElem?_eq_some_iff.mp h).1)
 |_,_,.cls h=>.cls _
 |_,_,.ty t=>.ty t
 |_,_,.exn a=>.exn a
theorem Cvs.fz(hk:ρ.st.length=k):∀{vs:List V}{ds:List D},Cvs mg ρ H vs ds->Fzs M' k ds ds
 |_,_,.nil=>.nil
 |_,_,.cons h t=>.cons (Cv.fz hk h) (Cvs.fz hk t)
end
theorem Cvs.fz_mem {k:Nat} (hk:ρ.st.length=k):∀ {vs:List V}{ds:List D},Cvs mg ρ H vs ds->∀ d∈ds,Fz M' k d d
 |_,_,.nil,d,h=>by cases h
 |_,_,.cons a t,d,h=>by
   rcases List.mem_cons.mp h with rfl | h
   ·exact a.fz hk
   ·exact Cvs.fz_mem hk t d h
theorem xj{M':Mo}{k:Nat}:∀{ds:List D},(∀d∈ds,Fz M' k d d)->Fzs M' k ds ds
 |[],_=>.nil
 |d::ds,h=>.cons (h d (by simp)) (xj fun e he=>h e (by simp[he]))
theorem J.fz{M:Mo}{o:DO}(j:J mg ρ M H):GR (M++[o]) M.length M:=by
 refine⟨rfl,fun n u h=>?_⟩
 have hn:=(List.getElem?_eq_some_iff.mp h).1
 refine⟨u,by rw[List.getElem?_append_left hn];exact h,?_⟩
 have hl:n<ρ.st.length:=by rw[j.len];exact hn
 have c:=j.obj n ρ.st[n] u (List.getElem?_eq_getElem hl) h
 cases u with
 |lst l=>obtain⟨xs,_,c⟩:=c;exact c.fz j.len
 |dic ks l=>obtain⟨xs,_,_,c⟩:=c;exact⟨rfl,c.fz j.len⟩
 |ins cc ns l=>obtain⟨C,dx,xs,_,_,_,c⟩:=c;exact⟨rfl,rfl,c.fz j.len⟩
end
def Ck(c:Str)(Fi:List D->DM D)(ds:List D)(M:Mo)(r':R D×Mo):Prop:=
 (∃ns vs,Fi (.ref M.length::ds) (M++[.ins c [] []])=some (.ok .non,M++[.ins c ns vs])∧(∀d∈vs,d∈ds∨∃i,d=.int i)∧r'=(.ok (.obj c ns vs),M)) ∨
 (∃e o,Fi (.ref M.length::ds) (M++[.ins c [] []])=some (.exc e,M++[o])∧r'=(.exc e,M))
theorem Ha{P:Program}{w:World}{K:PySem.W.Frag}{mg:Str->Option Value}{base:Heap}{k:Nat}{c qual:Str}{st:Stmt}{ps:List Str}{Fi F':List D->DM D}(T:MethD P w K mg base k c "__init__" qual st ps Fi)
  (hb:∀(kV doc pm:Value) (an:Option Addr) (cdv ct:Value) (us:List Value),us.length=ps.length->bindArgs (PySem.W.fnOf "__init__" qual (defArgs st) (defBody st) (defScope st) .none kV doc pm an cdv ct) ⟨us,[]⟩=pure (ps.zip us))
  (hm:∀C,mg c=some (.ref C)->PySem.W.makesIn K C=true∧PySem.W.keepIn K (.ref C)=true) (hf:∀ds M r',F' ds M=some r'->Ck c Fi ds M r'):ClsD P w K mg base k c F':=by
 obtain⟨C,f,fd,mc,G,B,a,n,cl⟩:=T.ex
 refine⟨C,ps,_,⟨f,fd,G,B.binds hb,B.kp,a,n⟩,(hm C mc).1,(hm C mc).2,mc,fun ρ M H vs ds Q E cv j g x dx hx hdx hne=>?_⟩
 obtain⟨r',e,p⟩:=g
 have hx':upd H dx (.own x) x=none:=by rw[upd_ne (fun z=>hne z.symm)];exact hx
 have x1:Ext ρ H ρ (upd H dx (.own x)):=.lay hdx
 have j1:=j.lay (.own x) hdx
 have x2:Ext ρ (upd H dx (.own x)) (ρ.put x) (upd (upd H dx (.own x)) x (.ins C dx [])):=.put hx'
 have j2:J mg (ρ.put x) (M++[.ins c [] []]) (upd (upd H dx (.own x)) x (.ins C dx [])):=j1.put hx' ⟨C,dx,[],mc,upd_same,rfl,.nil⟩
 have hput:(ρ.put x).st[M.length]?=some x:=by
  show (ρ.st++[x])[M.length]?=some x
  rw[←j.len,List.getElem?_append_right (Nat.le_refl _)];simp
 refine⟨ρ.put x,M++[.ins c [] []],.ref M.length::ds,.cons (.ref hput) (cv.mono (x1.trans x2)),j2,?_⟩
 have sb:∀{ρ2 H2},Ext (ρ.put x) (upd (upd H dx (.own x)) x (.ins C dx [])) ρ2 H2->Sub ρ ρ2 M.length:=fun {ρ2 H2} y=>by
  obtain⟨τ,ht⟩:=y.pre
  exact⟨⟨[x]++τ,by rw[ht];show (ρ.st++[x])++τ=_;simp⟩,y.vo,j.len⟩
 have ex:∀{ρ2 H2},Ext (ρ.put x) (upd (upd H dx (.own x)) x (.ins C dx [])) ρ2 H2->Ext ρ H ρ H2:=fun {ρ2 H2} y=>⟨⟨[],by simp⟩,rfl,fun a h n=>absurd h n,fun b o hb hn=>y.keep b o (by
  have nx:b≠x:=ne_of_none hb hx
  have ndx:b≠dx:=ne_of_none hb hdx
  rw[upd_ne nx,upd_ne ndx];exact hb) (fun z=>by
  rcases List.mem_append.mp z with z | z
  ·exact hn z
  ·exact ne_of_none hb hx (List.mem_singleton.mp z))⟩
 rcases hf ds M r' e with ⟨ns,vs',e2,hv,rfl⟩ | ⟨er,o,e2,rfl⟩
 ·refine⟨_,e2,fun ρ2 H2 b y j3 cb=>?_⟩
  cases cb
  refine⟨rfl,p ρ H2 (.ref x) (ex y) (j3.freeze (sb y) j.len j.fz) ?_⟩
  have h3:ρ2.st[M.length]?=some x:=y.at hput
  obtain⟨C',dx',xs,m',hx3,l,cs⟩:=j3.obj M.length x (.ins c ns vs') h3 (by simp)
  refine .obj (j.fresh hx) m' hx3 l (Cvs.freeze (sb y) j3 (xj fun d hd=>?_) cs)
  rcases hv d hd with h | ⟨i,rfl⟩
  ·exact cv.fz_mem j.len d h
  ·exact .int i
 ·refine⟨_,e2,fun ρ2 H2 C2 y j3 m2=>?_⟩
  exact p ρ H2 C2 (ex y) (j3.freeze (sb y) j.len j.fz) m2
end L3
namespace L3
open PySem PySem.Spec L2
def wu:List D->Mo->Option (List D)
 |[d],M=>(aQ d M).bind fun l=>(intsOf l).bind fun ns=>if ns.length≤60 then some ((dZ ns).map D.int) else none
 |_,_=>none
theorem lu:∀ {l:List D}{ns:List Int},intsOf l=some ns->l=ns.map D.int
 |[],ns,e=>by cases e;rfl
 | d::l,ns,e=>by
   cases d with
   |int i=>
     simp only[intsOf,Option.map_eq_some_iff] at e
     obtain⟨ms,h,rfl⟩:=e
     rw[lu h];rfl
   |_=>simp[intsOf] at e
theorem nF {mg:Str->Option Value}{ρ:Rh}{H:Hp}:∀ {ns:List Int}{xs:List V},Cvs mg ρ H xs (ns.map D.int)->xs=ns.map V.int
 |[],_,.nil=>rfl
 |n::ns,_,.cons a t=>by
   cases a
   rw[nF t];rfl
section
variable{X:Cx}{E:XK}{a:Expr}{fa:aa->DM (List D)}{p1 p2 pos1 pos2:Pos}
theorem Bc (hc:X.calm=true) (hmL:X.mg "sorted"=none) (hm:X.mg "set"=none) (ha:DA X E [a] fa) (hgL:Gl X "sorted":=by rfl) (hg:Gl X "set":=by rfl) (hs:notStar a=true:=by rfl) :
  DE X E (.Call (.Name "sorted" p1) [.Call (.Name "set" p2) [a] [] pos2] [] pos1) (fun δ=>fa δ>>=fun l=>rd (fun M=>(wu l M).map D.lst)):=⟨PE.mono (BK hc hgL hmL hg hm ha.h.h hs) fun σ H Q h=>by
 obtain⟨ρ,δ,M,ev,j,g1⟩:=h
 refine⟨ρ,δ,M,ev,j,g1.bind fun ρ1 H1 M1 xs ds e1 j1 c1 g2=>?_⟩
 obtain⟨d,ed,q⟩:=g2.rd
 obtain⟨l,el,rfl⟩:=Option.map_eq_some_iff.mp ed
 unfold wu at el
 split at el
 ·rename_i d0
  obtain⟨l0,h0,el⟩:=Option.bind_eq_some_iff.mp el
  obtain⟨ns,h1,el⟩:=Option.bind_eq_some_iff.mp el
  split at el
  ·rename_i hn
   cases el
   have e0:=lu h1
   subst e0
   obtain⟨v,rfl,k⟩:=c1.one
   have fin:∀p,H1 p=some (.lst (ns.map V.int))->∃p' ns',[V.ref p]=[.ref p']∧H1 p'=some (.lst (ns'.map V.int))∧ns'.length≤60∧∀l,H1 l=none->Q (.ref l) (upd H1 l (.lst ((dZ ns').map V.int))):=fun p hp=>
    ⟨p,ns,rfl,hp,hn,fun l hl=>q ρ1 _ _ (.lay hl) (j1.lay _ hl) (.lst (j1.fresh hl) upd_same (Cvs.ints _))⟩
   obtain⟨p,xs,rfl,hx,c⟩:=cF j1 k h0
   exact fin p (by rw[hx,nF c])
  ·cases el
 ·cases el⟩
end
theorem vD{α:Type}{l:List α}(h:l.length=1):∃a,l=[a]:=match l,h with | [a],_=>⟨a,rfl⟩
theorem qb{α:Type}{l:List α}(h:l.length=2):∃a b,l=[a,b]:=match l,h with | [a,b],_=>⟨a,b,rfl⟩
theorem Hh{α:Type}{l:List α}(h:l.length=3):∃a b c,l=[a,b,c]:=match l,h with | [a,b,c],_=>⟨a,b,c,rfl⟩
theorem Hj{α:Type}{l:List α}(h:l.length=4):∃a b c d,l=[a,b,c,d]:=match l,h with | [a,b,c,d],_=>⟨a,b,c,d,rfl⟩
def vq:D->DM D
 |.int n=>if 0≤n∧n<2^63 then pure (.int n) else stuck
 |_=>stuck
def zz(c:Str)(F:List D->DM D):List D->DM D
 |[.obj k ns vs]=>if k=c then F [.obj k ns vs]>>=vq else stuck
 |l=>rd (jK l)
theorem wL {X:Cx}{E:XK}{j k:Nat}{c qual:Str}{st:Stmt}{ps:List Str}{F:List D->DM D} (T:MethD X.prog X.w X.K X.mg X.base j c "__len__" qual st ps F) (hr:Room k X.A) (hx:Passes (cM X.prog X.w) X E)
  (hb:∀(kV doc pm:Value) (an:Option Addr) (cdv ct:Value) (us:List Value),us.length=ps.length->bindArgs (PySem.W.fnOf "__len__" qual (defArgs st) (defBody st) (defScope st) .none kV doc pm an cdv ct) ⟨us,[]⟩=pure (ps.zip us))
  (hjk:j+1≤k:=by decide):CallD X E (.builtin "len") (zz c F):=by
 obtain⟨C,f,fd,mc,G,B,a,n,cl⟩:=T.ex
 have MC:MethC X.prog X.w X.K X.mg X.base j C "__len__" ps (pN X.mg F):=⟨f,fd,G,B.binds hb,B.kp,a,n⟩
 intro pins s σ H vs us Q I rs q
 obtain⟨ρ,M,ds,j,cv,go⟩:=q
 unfold zz at go
 split at go
 ·rename_i k' ns ws
  split at go
  ·rename_i hk
   subst hk
   obtain⟨v,rfl,kv⟩:=cv.one
   cases kv with
   | obj hn m hh hl cs=>
     rw[mc] at m;cases m
     refine wK MC (hr.mono hjk) hx pins s σ H _ us Q I rs ⟨_,_,_,rfl,hh,ρ,M,_,cv,j,go.bind fun ρ1 H1 M1 b d e1 j1 c1 g2=>?_⟩
     unfold vq at g2
     split at g2
     ·split at g2
      ·rename_i hn2
       cases c1
       exact⟨_,rfl,hn2,g2.pure ρ1 H1 _ .refl j1 (.int _)⟩
      ·obtain⟨r,e,_⟩:=g2;cases e
     ·obtain⟨r,e,_⟩:=g2;cases e
  ·obtain⟨r,e,_⟩:=go;cases e
 ·exact call_lenD pins s σ H vs us Q I rs ⟨ρ,M,_,j,cv,go⟩
end L3
namespace L2
open PySem PySem.Spec PyProof.Rows
end L2
namespace L3
open PySem PySem.Spec L2
end L3
namespace L2
open PySem PySem.Spec PyProof.Rows
def GF(i j k:Nat)(ta:TA):TS:=fun D σ H=>ta σ H fun vs H1=>∃v w z,vs=[v,w,z]∧D.nx (((σ.set i (some v)).set j (some w)).set k (some z)) H1
theorem BR {X:Cx}{i j k:Nat}{x y z:Str}{a b c:Expr}{ta:TA}{px py pz pt pos:Pos}{kt k2 pt2} (hc:X.calm=true) (hN:X.N.Nodup) (hi:X.N[i]?=some x) (hj:X.N[j]?=some y) (hk:X.N[k]?=some z) (hij:i≠j) (hik:i≠k) (hjk:j≠k)
  (hx:X.env.scope.names.lookup x=some .local) (hy:X.env.scope.names.lookup y=some .local) (hz:X.env.scope.names.lookup z=some .local) (ha:PA X [a,b,c] ta)
  (hw:swappedStores [.Tuple [.Name x px,.Name y py,.Name z pz] kt pt] (.Tuple [a,b,c] k2 pt2) X.env=pure (some [x,y,z]))
  (hs:swapsWithSole [.Tuple [.Name x px,.Name y py,.Name z pz] kt pt] (.Tuple [a,b,c] k2 pt2) pos.line X.env=pure false:=by rfl) :
  PS X (.Assign [.Tuple [.Name x px,.Name y py,.Name z pz] kt pt] (.Tuple [a,b,c] k2 pt2) pos) (GF i j k ta):=by
 intro pins s σ H D I h
 rw[exec_Assign_arm]
 refine wpAny_bind (wpAny_standAt ?_)
 rw[hs]
 refine wpAny_bind (wpAny_pure ?_)
 rw[if_neg (by decide)]
 refine wpAny_bind (Tuple_ (thn (ha _ pins s σ H _ I h) fun us s1 ⟨vs,H1,I1,r1,q1⟩=>?_))
 obtain⟨v,w,w3,e1,q1⟩:=q1
 subst e1
 obtain ⟨u1,u2,u3,rfl,rv,rw',rz⟩:∃ u1 u2 u3,us=[u1,u2,u3]∧RelV v u1∧RelV w u2∧RelV w3 u3:=by
  cases r1 with
  | cons p q=>
    cases q with
    | cons p' q'=>
      cases q' with
      |cons p2 q2=>
        cases q2
        exact⟨_,_,_,rfl,p,p',p2⟩
 refine wpAny_newObj_type ?_ (by show 3≤sizeLine;decide)
 have I2:Inv X pins σ H1 { s1 with heap:=s1.heap.push { cls:=.type "tuple",data:=.seq [u1,u2,u3].toArray } }:=I1.kept (t':=s1.toks) fun b o e=>Heap.get?_push_of_some _ e
 rw[hw]
 refine wpAny_bind (wpAny_pure ?_)
 show wpAny (model X.prog X.w) X.A (do rule "assign.swapped-stores";let items ←unpackItems (.ref s1.heap.objs.size) 3 none;assignInOrder [fun v=>bindName X.env z v,fun v=>bindName X.env y v,fun v=>bindName X.env x v] items.reverse;pure Flow.next) _ _ _
 refine wpAny_bind (wpAny_rule (wpAny_bind (unpackItems_tuple (items:=#[u1,u2,u3]) (I.ok.hd hc) (IsTup.new s1.heap _) fun h' hx'=>?_)))
 have I3:=I2.kept (h':=h') (t':=s1.toks) fun b o e=>hx' b o (Nat.ne_of_lt (Heap.lt_size e)) e
 show wpAny _ _ (assignInOrder [fun v=>bindName X.env z v,fun v=>bindName X.env y v,fun v=>bindName X.env x v] [u3,u2,u1]>>=fun _=>pure Flow.next) _ _ _
 refine wpAny_bind (assignInOrder_cons (wpAny_bindName (store_ok I3 hN hk (.inl hz) rz (fun s2 I4=>?_) (.inr hz))))
 refine assignInOrder_cons (wpAny_bindName (store_ok I4 hN hj (.inl hy) rw' (fun s3 I5=>?_) (.inr hy)))
 refine assignInOrder_cons (wpAny_bindName (store_ok I5 hN hi (.inl hx) rv (fun s4 I6=>assignInOrder_nil (wpAny_pure ?_)) (.inr hx)))
 have e:((σ.set k (some w3)).set j (some w)).set i (some v)=((σ.set i (some v)).set j (some w)).set k (some w3):=by
  rw[List.set_comm _ _ (Ne.symm hjk),List.set_comm _ _ (Ne.symm hik),List.set_comm _ _ (Ne.symm hij)]
 rw[e] at I6
 exact⟨_,H1,I6,q1⟩
end L2
namespace L3
open PySem PySem.Spec L2
def Ai(i j k:Nat)(fa:aa->DM (List D)):aa->DM Fl:=fun δ=>fa δ>>=fun l=>match l with
 |[v,w,z]=>pure (.nx (((δ.set i (some v)).set j (some w)).set k (some z)))
 |_=>stuck
@[simp] theorem H8(i j k:Nat)(fa:aa->DM (List D))(δ:aa):Ai i j k fa δ=fa δ>>=fun l=>match l with
 |[v,w,z]=>Pure.pure (.nx (((δ.set i (some v)).set j (some w)).set k (some z)))
 |_=>stuck:=id rfl
theorem Bd {X:Cx}{E:XK}{i j k:Nat}{x y z:Str}{a b c:Expr}{fa:aa->DM (List D)}{px py pz pt pos:Pos}{kt k2 pt2} (hc:X.calm=true) (hN:X.N.Nodup) (hi:X.N[i]?=some x) (hj:X.N[j]?=some y) (hk:X.N[k]?=some z) (hij:i≠j) (hik:i≠k) (hjk:j≠k)
  (hx:X.env.scope.names.lookup x=some .local) (hy:X.env.scope.names.lookup y=some .local) (hz:X.env.scope.names.lookup z=some .local) (ha:DA X E [a,b,c] fa)
  (hw:swappedStores [.Tuple [.Name x px,.Name y py,.Name z pz] kt pt] (.Tuple [a,b,c] k2 pt2) X.env=pure (some [x,y,z]))
  (hs:swapsWithSole [.Tuple [.Name x px,.Name y py,.Name z pz] kt pt] (.Tuple [a,b,c] k2 pt2) pos.line X.env=pure false:=by rfl) :
  DS X E (.Assign [.Tuple [.Name x px,.Name y py,.Name z pz] kt pt] (.Tuple [a,b,c] k2 pt2) pos) (Ai i j k fa):=⟨PS.mono (BR hc hN hi hj hk hij hik hjk hx hy hz ha.h.h hw hs) fun D σ H h=>by
 obtain⟨ρ,δ,M,ev,j,g1⟩:=h
 refine⟨ρ,δ,M,ev,j,bu.bind g1 fun ρ1 H1 M1 v d e1 j1 c1 g2=>?_⟩
 cases c1 with
 |nil=>obtain⟨r,e,_⟩:=g2;cases e
 | cons c1 c2=>cases c2 with
   |nil=>obtain⟨r,e,_⟩:=g2;cases e
   | cons c2 c3=>cases c3 with
     |nil=>obtain⟨r,e,_⟩:=g2;cases e
     |cons c3 c4=>cases c4 with
       |nil=>exact⟨_,_,_,rfl,bu.pure (a:=.nx _) g2 ρ1 H1 _ .refl j1 ((((ev.mono e1).set c1).set c2).set c3)⟩
       |cons _ _=>obtain⟨r,e,_⟩:=g2;cases e⟩
end L3
namespace N10
def pl(a b:Nat):Nat×Nat:=(a / Nat.gcd a b,b / Nat.gcd a b)
def Hd(l:List Nat):Nat:=l.foldl Nat.gcd 0
def lst(l:List Nat):List Nat:=l.map (·/ Hd l)
def S:Nat->(Nat->Nat)->Nat
 |0,_=>0
 |n+1,f=>S n f+f n
def up(f:Nat->Nat)(x v:Nat):Nat->Nat:=fun i=>if i=x then v else f i
structure G where
 A:Nat->Nat->Nat
 L:Nat->Nat
 W:Nat->Nat
end N10
namespace L3
open PySem PySem.Spec L2
def nM(R:List (List Nat)):D:=.tup (R.map nT)
def ga(l:List Nat)(i:Nat):Nat:=l.getD i 0
def gr(R:List (List Nat))(i:Nat):List Nat:=R.getD i []
theorem gr_mem{R:List (List Nat)}{i:Nat}(h:i<R.length):gr R i∈R:=by
 unfold gr
 rw[List.getD_eq_getElem?_getD,List.getElem?_eq_getElem h]
 exact List.getElem_mem _
theorem CW{l:List Nat}{i:Nat}(h:l.length≤i):ga l i=0:=by
 unfold ga
 rw[List.getD_eq_getElem?_getD,List.getElem?_eq_none h];rfl
theorem FJ{l:List Nat}{i:Nat}(h:i<l.length):ga l i=l[i]:=by
 unfold ga
 rw[List.getD_eq_getElem?_getD,List.getElem?_eq_getElem h];rfl
theorem Du{a b:Nat}(h:nD a=nD b):a=b:=by
 have:=D.int.inj h
 omega
theorem sU{a b:List Nat}(h:nT a=nT b):a=b:=(List.map_inj_right fun _ _=>Du).mp (D.tup.inj h)
theorem xK{a b:List (List Nat)}(h:nM a=nM b):a=b:=(List.map_inj_right fun _ _=>sU).mp (D.tup.inj h)
theorem xG {α:Type}{ft:aa->DM Bool}{fe:aa->DM D}{rest:aa} (enc:α->D) (p:α->Bool) (e:α->D):∀ (as:List α) (x:Option D) (l:List D),l.length + as.length≤1000000->(∀ a∈as,ft (some (enc a)::rest)=Pure.pure (p a))->(∀ a∈as,p a=true->fe (some (enc a)::rest)=Pure.pure (e a))->
  bA (gN 0) ft (bR fe) (as.map enc) (x::rest) l=Pure.pure (iD x (as.map enc)::rest,l++(as.filter p).map e)
 |[],x,l,_,_,_=>by simp[bA,iD]
 | d::ds,x,l,hl,h1,h2=>by
   have b:=h1 d (List.mem_cons_self ..)
   have hl':l.length+(ds.length+1)≤1000000:=by simpa using hl
   have lt:l.length<sizeLine:=by show l.length<2^24;omega
   have ih:=fun l' hl'=>xG (rest:=rest) enc p e ds (some (enc d)) l' hl' (fun x hx=>h1 x (List.mem_cons_of_mem _ hx)) (fun x hx=>h2 x (List.mem_cons_of_mem _ hx))
   by_cases hp:p d=true
   ·have c:=h2 d (List.mem_cons_self ..) hp
    have q:=ih (l++[e d]) (by simp;omega)
    simp[bA,b,hp,bR,c,lt,q,iD]
   ·have q:=ih l (by omega)
    simp[bA,b,hp,q,iD]
theorem bf{α:Type}{ft:aa->DM Bool}{fe:aa->DM D}{x:Option D}{rest:aa}{as:List α}(enc:α->D)(p:α->Bool)(e:α->D)(hl:as.length≤1000000)(h1:∀a∈as,ft (some (enc a)::rest)=Pure.pure (p a))(h2:∀a∈as,p a=true->fe (some (enc a)::rest)=Pure.pure (e a)) :
  cN (bA (gN 0) ft (bR fe) (as.map enc) (x::rest) [])=Pure.pure (iD x (as.map enc)::rest,(as.filter p).map e):=by
 rw[xG enc p e as x [] (by simpa using hl) h1 h2];simp
theorem jE{α:Type}{fe:aa->DM D}{x:Option D}{rest:aa}{as:List α}(enc:α->D)(e:α->D)(hl:as.length≤1000000)(h2:∀a∈as,fe (some (enc a)::rest)=Pure.pure (e a)) :
  cN (bA (gN 0) (fun _=>Pure.pure true) (bR fe) (as.map enc) (x::rest) [])=Pure.pure (iD x (as.map enc)::rest,as.map e):=by
 rw[bf enc (fun _=>true) e hl (fun _ _=>rfl) fun a ha _=>h2 a ha,List.filter_eq_self.mpr (fun _ _=>rfl)]
theorem Ej{a b:Nat}(h0:0<b)(h:b<2^1000):(rd (o6 (nD a) (nD b)):DM D)=Pure.pure (nD (a / b)):=by
 unfold nD
 rw[xY (uo (by omega) (by simpa using h)),Int.natCast_ediv]
theorem xW(a b:Nat):(rd (b7 (nD a) (nD b)):DM D)=Pure.pure (nD (a+b)):=by
 unfold nD
 rw[Al,Int.natCast_add]
theorem jt(a:Nat):(rd (b7 (nD a) (.int 1)):DM D)=Pure.pure (nD (a+1)):=xW a 1
theorem Ei(a:Nat):(rd (b7 (.int 1) (nD a)):DM D)=Pure.pure (nD (a+1)):=by
 rw[Nat.add_comm];exact xW 1 a
theorem Es{a b:Nat}(h:b≤a):(rd (zW (nD a) (nD b)):DM D)=Pure.pure (nD (a-b)):=by
 unfold nD
 rw[Gs]
 have:(a:Int)-(b:Int)=((a-b:Nat):Int):=by omega
 rw[this]
theorem cT(a b:Nat):(rd (b8 (nD a) (nD b)):DM D)=Pure.pure (.bl (decide (a=b))):=by
 unfold nD
 rw[Gk]
 have:decide ((a:Int)=(b:Int))=decide (a=b):=by rw[Bool.eq_iff_iff,decide_eq_true_eq,decide_eq_true_eq];omega
 rw[this]
theorem lK(a b:Nat):(rd (cR (nD a) (nD b)):DM D)=Pure.pure (.bl (!decide (a=b))):=by
 unfold nD
 rw[Gq]
 have:decide ((a:Int)=(b:Int))=decide (a=b):=by rw[Bool.eq_iff_iff,decide_eq_true_eq,decide_eq_true_eq];omega
 rw[this]
theorem Em(a b:Nat):(rd (Do (nD a) (nD b)):DM D)=Pure.pure (.bl (decide (a<b))):=by
 unfold nD
 rw[Hu]
 have:decide ((a:Int)<(b:Int))=decide (a<b):=by rw[Bool.eq_iff_iff];simp
 rw[this]
theorem jw(a b:Nat):(rd (ph (nD a) (nD b)):DM D)=Pure.pure (.bl (decide (a≤b))):=by
 unfold nD
 rw[Ht]
 have:decide ((a:Int)≤(b:Int))=decide (a≤b):=by rw[Bool.eq_iff_iff];simp
 rw[this]
theorem tK(a b:Nat):(rd (qN (nD a) (nD b)):DM D)=Pure.pure (.bl (decide (b<a))):=by
 unfold nD
 rw[Ek]
 have:decide ((b:Int)<(a:Int))=decide (b<a):=by rw[Bool.eq_iff_iff];simp
 rw[this]
theorem xZ(a b:Nat):(rd (o7 (nD a) (nD b)):DM D)=Pure.pure (.bl (decide (b≤a))):=by
 unfold nD
 rw[zT]
 have:decide ((b:Int)≤(a:Int))=decide (b≤a):=by rw[Bool.eq_iff_iff];simp
 rw[this]
theorem uJ{a b:Nat}(h:0<b):(rd (jM (nD a) (nD b)):DM D)=Pure.pure (nD (a%b)):=Ep h
theorem BV(a b:Bool):(rd (b8 (.bl a) (.bl b)):DM D)=Pure.pure (.bl (a==b)):=aX fun M=>by
 simp[b8,L3.eqB,eqP,toPy,PyData.canLay0,PyData.depth,PyData.eqv]
theorem lJ(R:List (List Nat)):(rd (jK [nM R]):DM D)=Pure.pure (nD R.length):=by simp[nM,nD]
theorem Gp(l:List D):(rd (eE [.tup l,.ty "tuple"]):DM D)=Pure.pure (.bl true):=bY (t := "tuple") (fun _=>rfl) (by decide)
theorem yr(R:List (List Nat)):(rd (eE [nM R,.ty "tuple"]):DM D)=Pure.pure (.bl true):=Gp _
theorem yu{n:Nat}(h:n<2^62):lN [nD n]=some (.fix ((List.range n).map nD)):=tL h
theorem xX(R:List (List Nat)):oK (nM R)=some (.fix (R.map nT)):=rfl
theorem tH(l:List D):(rd (rO (.lst l)):DM Itn)=Pure.pure (.fix l):=rfl
theorem vN{R:List (List Nat)}{i:Nat}(h:i<R.length):(rd (gP (nM R) (nD i)):DM D)=Pure.pure (nT (gr R i)):=Am (by unfold gr;rw[List.getElem?_map,List.getD_eq_getElem?_getD,List.getElem?_eq_getElem h];rfl)
theorem ju{R:List (List Nat)}(h:0<R.length):(rd (gP (nM R) (.int 0)):DM D)=Pure.pure (nT (gr R 0)):=vN h
theorem jX:∀ R:List (List Nat),dG (R.map nT)=some (R.map fun l=>PyData.tuple (l.map fun n:Nat=>PyData.int (n:Int)))
 |[]=>rfl
 | l::R=>by
   have e:toPy (nT l)=some (PyData.tuple (l.map fun n:Nat=>PyData.int (n:Int))):=by
    rw[jk]
    simp only[toPy,jW,Option.map_some]
    rw[List.map_map]
    rfl
   simp only[List.map_cons,dG,e,jX R]
theorem nG:∀ R:List (List Nat),PyData.depthAll (R.map fun l=>PyData.tuple (l.map fun n:Nat=>PyData.int (n:Int)))≤2
 |[]=>by simp[PyData.depthAll]
 |l::R=>by
   have:=nG R
   have h:=jF (l.map fun n:Nat=>(n:Int))
   rw[List.map_map] at h
   have h':PyData.depthAll (l.map fun n:Nat=>PyData.int (n:Int))≤1:=h
   simp only[List.map_cons,PyData.depthAll,PyData.depth]
   omega
theorem uO {R:List (List Nat)} (h:∀ l∈R,∀ n∈l,n<2 ^ 1000):PyData.showableAll (R.map fun l=>PyData.tuple (l.map fun n:Nat=>PyData.int (n:Int)))=true:=by
 induction R with
 |nil=>rfl
 | cons l R ih=>
   have hl:=lV (l:=l.map fun n:Nat=>(n:Int)) (fun i hi=>by
    obtain⟨n,hn,rfl⟩:=List.mem_map.mp hi
    have:=h l (by simp) n hn
    rw[Int.natAbs_natCast];exact this)
   rw[List.map_map] at hl
   have hl':PyData.showableAll (l.map fun n:Nat=>PyData.int (n:Int))=true:=hl
   simp[PyData.showableAll,PyData.showable,hl',ih fun m hm=>h m (by simp[hm])]
theorem wF {c:Nat}:∀ {R:List (List Nat)},(∀ l∈R,l.length≤c)->dq (R.map fun l=>PyData.tuple (l.map fun n:Nat=>PyData.int (n:Int)))≤(1923 * c + 100) * R.length
 |[],_=>by simp[dq]
 |l::R,h=>by
   have ih:=wF (R:=R) fun m hm=>h m (by simp[hm])
   have b:=rP (l.map fun n:Nat=>(n:Int))
   rw[List.map_map,List.length_map] at b
   have b':dq (l.map fun n:Nat=>PyData.int (n:Int))=1923*l.length:=b
   have hl:=h l (by simp)
   have m:1923*l.length≤1923*c:=Nat.mul_le_mul_left _ hl
   simp only[List.map_cons,dq,bB,b',List.length_cons]
   rw[Nat.mul_add]
   omega
theorem wZ (a b:List (List Nat)) (ha:a.length≤1000000):(rd (cR (nM a) (nM b)):DM D)=Pure.pure (.bl (!decide (a=b))):=aX fun M=>by
 have d:=nG a
 have key:∀ a b:List (List Nat),PyData.eqvAll (a.map fun l=>PyData.tuple (l.map fun n:Nat=>PyData.int (n:Int))) (b.map fun l=>PyData.tuple (l.map fun n:Nat=>PyData.int (n:Int)))=decide (a=b):=by
  intro a
  induction a with
  |nil=>intro b;cases b<;>simp[PyData.eqvAll]
  | cons x a ih=>
    intro b
    cases b with
    |nil=>simp[PyData.eqvAll]
    | cons y b=>
      have e:=kZ (x.map fun n:Nat=>(n:Int)) (y.map fun n:Nat=>(n:Int))
      rw[List.map_map,List.map_map] at e
      have e':PyData.eqvAll (x.map fun n:Nat=>PyData.int (n:Int)) (y.map fun n:Nat=>PyData.int (n:Int))=decide (x=y):=by
       refine Eq.trans e ?_
       rw[Bool.eq_iff_iff,decide_eq_true_eq,decide_eq_true_eq]
       exact nA
      simp only[List.map_cons,PyData.eqvAll,PyData.eqv,e',ih b]
      by_cases h:x=y<;>by_cases h2:a=b<;>simp[h,h2]
 have lay:∀ a:List (List Nat),PyData.canLayAll0 (a.map fun l=>PyData.tuple (l.map fun n:Nat=>PyData.int (n:Int)))=true:=by
  intro a
  induction a with
  |nil=>rfl
  |cons x a ih=>
    have e:=lay_ints (x.map fun n:Nat=>(n:Int))
    rw[List.map_map] at e
    have e':PyData.canLayAll0 (x.map fun n:Nat=>PyData.int (n:Int))=true:=e
    simp[PyData.canLayAll0,PyData.canLay0,e',ih]
 unfold nM
 simp only[cR,L3.eqB,eqP,toPy,jX,Option.map_some,PyData.canLay0,lay,PyData.depth,PyData.eqv,key]
 simp
 omega
end L3
namespace LS
open PySem PySem.Spec PyProof.Rows PyProof
end LS
namespace L2
open PySem PySem.Spec PyProof.Rows
variable{X:Cx}{pos:Pos}
end L2
namespace L3
open PySem PySem.Spec PyProof.Rows L2
variable{X:Cx}{E:XK}{pos:Pos}
def gL(n:Nat)(fs:List D->aa->DM aa):D->aa->DM aa
 |.lst l,δ=>if l.length=n then fs l δ else stuck
 |_,_=>stuck
@[simp] theorem Ip(n:Nat)(fs:List D->aa->DM aa)(l:List D)(δ:aa):gL n fs (.lst l) δ=if l.length=n then fs l δ else stuck:=id rfl
end L3
namespace L3
open PySem PySem.Spec L2
abbrev Mg:=Str->Option Value
abbrev Fn:=List D->DM D
abbrev Nn(mg:Mg)(x:Str):Prop:=mg x=none
abbrev Gi(mg:Mg)(x:Str)(i:Int)(t:Tok):Prop:=mg x=some (.int i t)
abbrev Gc(mg:Mg)(x:Str)(C:Addr):Prop:=mg x=some (.ref C)
abbrev Rm(k:Nat)(A:Around)(q:Str)(st:Stmt)(s:Shared)(f:Addr)(cdv:Value):Prop:=Room k (A.deeper (PyProof.Rows.envOfC q (defScope st) s.heap.objs.size f cdv))
abbrev Ds(P:Program)(w:World)(K:PySem.W.Frag)(mg:Mg)(base:Heap)(N:List Str)(q:Str)(st:Stmt)(f:Addr)(cdv:Value)(A:Around)(outer:List Env)(s:Shared)(H:Hp)(E:XK)(b:aa->DM Fl):Prop:=
 DSs (bK P w K mg base N q (defScope st) f cdv A outer s H E) E (defBody st) b
theorem Gy{N P:List Str}{sc:Scope}(a:sc.kind=.function)(b:sc.isCoroutine=false)(c:sc.isGenerator=false)(p:N.take P.length=P)(d:(decide N.Nodup&&(decide (∀x∈P,sc.names.lookup x=some .local∨sc.names.lookup x=some .cell)&&decide (∀y∈sc.names,y.2≠.free)))=true):FnScope N P sc:=by
 simp only[Bool.and_eq_true,decide_eq_true_eq] at d
 exact⟨a,b,c,d.1,p,d.2.1,d.2.2⟩
theorem u1{n:Nat}(h:n+64<cLine):n+1<cLine:=by omega
end L3
namespace L3
open PySem L2
end L3
namespace L3
open PySem PySem.Spec L2 LB
end L3
namespace L3
open PySem L2
end L3
namespace L3
open PySem PySem.Spec L2 LA LB
open PyProof.Rows hiding St
end L3
namespace L3
open PySem PySem.Spec L2 LA LB LS
open PyProof.Rows hiding St
end L3
namespace L2
open PySem PySem.Spec PyProof.Rows LS LA LB
end L2
namespace L3
open PySem PySem.Spec L2 LA LB
end L3
namespace L3
open PySem PySem.Spec L2
open PyProof.Rows hiding St
end L3
namespace L3
open PySem PySem.Spec PyProof.Rows L2
abbrev TB(K:PySem.W.Frag)(x:Str):Prop:=PySem.W.nsIn K mainGlobals x=some none
def TD(K:PySem.W.Frag)(x:Str)(st:Stmt):Prop:=∀{h:Heap}{mg:Mg},K.In h->h.Ns mainGlobals mg->DefAt K mg x st
section
variable{K:PySem.W.Frag}{x:Str}{st:Stmt}{f:Addr}{oc:Value}{od an:Option Addr}{osl:Array (Option Value)}{kV doc pm cdv ct:Value}
theorem GK(a:PySem.W.nsIn K mainGlobals x=some (some (.ref f)))(l:K.lookup f=some ⟨oc,od,.func (PySem.W.fnOf x x (defArgs st) (defBody st) (defScope st) .none kV doc pm an cdv ct),osl⟩)(c:PySem.W.codeIn K cdv x=true)(k:PySem.W.keepIn K (.ref f)=true):TD K x st:=
 fun X G=>zg X G a l c k
end
section
variable{P:Program}{w:World}{K:PySem.W.Frag}{mg:Mg}{base:Heap}{k:Nat}{C:Addr}{c x qual:Str}{N ps:List Str}{st:Stmt}{fb:aa->DM Fl}{is:List Int}
theorem okd(T:DefAt K mg x st)(S:FnScope N ps (defScope st))(hbody:∀{f cdv A outer s H E},Rm k A x st s f cdv->Ds P w K mg base N x st f cdv A outer s H E fb)
  (hb:∀(kV doc pm:Value) (an:Option Addr) (cdv ct:Value) (us:List Value),us.length=ps.length->bindArgs (PySem.W.fnOf x x (defArgs st) (defBody st) (defScope st) .none kV doc pm an cdv ct) ⟨us,[]⟩=pure (ps.zip us):=by intro _ _ _ _ _ _ us hl;first | (obtain⟨_,rfl⟩:=vD hl;rfl) | (obtain⟨_,_,rfl⟩:=qb hl;rfl) | (obtain⟨_,_,_,rfl⟩:=Hh hl;rfl) | (obtain⟨_,_,_,_,rfl⟩:=Hj hl;rfl)) :
  DefD P w K mg base (k+1) x ps (aP ps.length N.length fb):=L3.DefAt.okD T S hb fun _ _ _ _ _ _ _=>hbody
theorem Ah(T:MethAt K C x qual st)(m:mg c=some (.ref C))(cl:L2.Cls K C)(S:FnScope N ps (defScope st))(hbody:∀{f cdv A outer s H E},Rm k A qual st s f cdv->Ds P w K mg base N qual st f cdv A outer s H E fb):MethD P w K mg base (k+1) c x qual st ps (aP ps.length N.length fb):=L3.MethAt.okD T m cl S fun _ _ _ _ _ _ _=>hbody
end
end L3
namespace LA
open PySem PySem.W PySem.Calls LS PyProof.Rows LB
end LA
namespace L2
open PySem PySem.Spec PyProof.Rows LS LA LB
end L2
namespace L3
open PySem PySem.Spec L2 LA LB LS
open PyProof.Rows hiding St
end L3
namespace L3
open PySem PySem.Spec L2
open PyProof.Rows hiding St
end L3
namespace L3
open PySem PySem.Spec L2 LB
end L3
namespace L3
open PySem PySem.Spec L2
open PyProof.Rows hiding St
section
variable{X:Cx}{E:XK}{a:Expr}{fa:aa->DM D}{fs:aa->DM (List D)}{pos p1 p2 p3 p4:Pos}
def CN:D->D->Mo->Option D
 |.tup l,.tup [],_=>some (.bl l.isEmpty)
 |_,_,_=>none
theorem Bt(hu:X.A.units+64<cLine):OpR X (compareOp .Eq) (fun x y H Q=>∃a b xs,x=.ref a∧y=.ref b∧H a=some (.tup xs)∧H b=some (.tup [])∧Q (.bl xs.isEmpty) H):=by
 intro pins s σ H x y v u Q I rx ry h
 obtain⟨a,b,xs,rfl,rfl,ha,hb,q⟩:=h
 cases rx
 cases ry
 obtain⟨i1,r1,h1,_⟩:=I.tuple (SqT.of (K:=X.K) ha)
 obtain⟨i2,r2,h2,_⟩:=I.tuple (SqT.of (K:=X.K) hb)
 cases r2
 refine PySem.SeqAt.RcAt.tuples (e:=fun _=>true) h1 h2 (by omega) (fun j _ j2=>absurd j2 (Nat.not_lt_zero _)) _ _ _ _ ?_
 refine⟨.bl xs.isEmpty,H,I,?_,q⟩
 cases r1<;>rfl
theorem Bs (hu:X.A.units + 64<cLine):bM X E (compareOp .Eq) (fun x y=>rd (CN x y)):=bM.of (Bt hu) fun x y H Q ρ M dx dy d j cx cy e q=>by
 unfold CN at e
 split at e
 ·cases e
  cases cx with
  | tup n1 h1 c1=>
    cases cy with
    |tup n2 h2 c2=>
      cases c2
      refine⟨_,_,_,rfl,rfl,h1,h2,?_⟩
      rw[c1.empty]
      exact q ρ H _ .refl j (.bl _)
 ·cases e
def nb(b:Bool):Int:=if b=true then 1 else 0
theorem wW{st:List Stmt}:DSs X E st (fun _=>stuck):=⟨by
 intro pins s σ H D I h
 obtain⟨ρ,δ,M,ev,j,g1⟩:=h
 obtain⟨r,e,_⟩:=g1
 cases e⟩
end
end L3
namespace L2
open PySem PySem.Spec PyProof.Rows LS
end L2
namespace L3
open PySem PySem.Spec L2
structure OwnK(K:PySem.W.Frag)(C:Addr):Prop where
 ne:PySem.W.findIn K (.ref C) "__ne__"=some (some (.builtin "object.__ne__"))
 mro:PySem.W.mroIn K C (.type "object")=some true
 cc:PySem.W.findIn K (.ref C) "__class__"=some (some (.builtin "object.__class__"))
 gs:PySem.W.specialIn K (.builtin "object.__class__") "__get__"=some (some (.builtin "getset_descriptor.__get__"))
 tk:PySem.W.takesIn K (.builtin "object.__class__")=some true
 ci:((PySem.W.clsIn K C).isSome&&PySem.W.typeIn K (.ref C)==some (.type "type"))=true
 cls:L2.Cls K C
structure OwnC(K:PySem.W.Frag)(mg:Str->Option Value)(c:Str):Prop where
 ex:∃C,mg c=some (.ref C)∧OwnK K C
theorem yG{K:PySem.W.Frag}{C:Addr}:∀t∈tys,PySem.W.subIn K (.type t) (.ref C)=some false:=by
 intro t ht
 simp only[tys,List.mem_cons,List.mem_nil_iff,or_false] at ht
 rcases ht with rfl | rfl | rfl | rfl | rfl | rfl | rfl<;>rfl
theorem OwnK.kit{K:PySem.W.Frag}{C:Addr}(h:OwnK K C):∀t∈tys,PySem.W.kitOne K (.type t) (.ref C)=some false:=by
 intro t ht
 unfold PySem.W.kitOne
 rw[if_neg (by simp)]
 unfold PySem.W.kitCls
 dsimp only
 rw[if_pos h.ci]
 exact yG t ht
def gW(c:Str):D->Mo->Bool
 |.obj k _ _,_=>k==c
 |d,M=>(tyOf d M).isSome
def vp:D->DM D
 |.bl b=>pure (.bl b)
 |_=>stuck
def zG:D->DM D
 |.bl b=>pure (.bl (!b))
 |_=>stuck
def yW:D->DM D
 |.str x=>pure (.str x)
 |_=>stuck
def gq{α:Type}(p:Mo->Bool)(m:DM α):DM α:=fun M=>if p M=true then m M else none
theorem Go.when{mg:Str->Option Value}{E:XK}{ρ:Rh}{H:Hp}{M:Mo}{α β:Type}{rel:Rh->Hp->β->α->Prop}{Q:β->Hp->Prop}{p:Mo->Bool}{m:DM α}(g:Go mg E rel Q ρ H (gq p m) M):p M=true∧Go mg E rel Q ρ H m M:=by
 obtain⟨r,e,q⟩:=g
 unfold gq at e
 split at e
 ·exact⟨‹_›,r,e,q⟩
 ·cases e
theorem yC {X:Cx}{ρ:Rh}{H:Hp}{M:Mo}{c:Str}{C:Addr}{y:V}{d:D} (mc:X.mg c=some (.ref C)) (j:J X.mg ρ M H) (cy:Cv X.mg ρ H y d) (h:gW c d M=true):rM X.K H C y:=by
 cases d with
 | obj k ns vs=>
   have hk:k=c:=by simpa[gW] using h
   subst hk
   cases cy with
   |obj hn m hh hl cs=>
     rw[mc] at m;cases m
     exact .inl ⟨_,_,_,rfl,hh⟩
 |_=>
   have h':=h
   simp only[gW] at h'
   obtain⟨t,ht⟩:=Option.isSome_iff_exists.mp h'
   exact .inr ⟨t,wz j cy ht,yG t (oG ht)⟩
section
variable{X:Cx}{E:XK}{j k:Nat}{c qual:Str}{st:Stmt}{ps:List Str}{F:List D->DM D}
def vQ(c:Str)(F:List D->DM D):List D->DM D
 |[.obj k ns vs]=>if k=c then F [.obj k ns vs]>>=yW else stuck
 |l=>rd (eG l)
theorem oU (T:MethD X.prog X.w X.K X.mg X.base j c "__repr__" qual st ps F) (hr:Room k X.A) (hx:Passes (cM X.prog X.w) X E)
  (hb:∀(kV doc pm:Value) (an:Option Addr) (cdv ct:Value) (us:List Value),us.length=ps.length->bindArgs (PySem.W.fnOf "__repr__" qual (defArgs st) (defBody st) (defScope st) .none kV doc pm an cdv ct) ⟨us,[]⟩=pure (ps.zip us))
  (hjk:j+1≤k:=by decide):CallD X E (.builtin "repr") (vQ c F):=by
 obtain⟨C,f,fd,mc,G,B,a,n,cl⟩:=T.ex
 have MC:MethC X.prog X.w X.K X.mg X.base j C "__repr__" ps (pN X.mg F):=⟨f,fd,G,B.binds hb,B.kp,a,n⟩
 intro pins s σ H vs us Q I rs q
 obtain⟨ρ,M,ds,j,cv,go⟩:=q
 unfold vQ at go
 split at go
 ·rename_i k' ns ws
  split at go
  ·rename_i hk
   subst hk
   obtain⟨v,rfl,kv⟩:=cv.one
   cases kv with
   | obj hn m hh hl cs=>
     rw[mc] at m;cases m
     refine vm MC hr.units (hr.mono hjk) hx pins s σ H _ us Q I rs ⟨_,_,_,rfl,hh,ρ,M,_,cv,j,go.bind fun ρ1 H1 M1 b d e1 j1 c1 g2=>?_⟩
     unfold yW at g2
     split at g2
     ·cases c1
      exact⟨_,rfl,g2.pure ρ1 H1 _ .refl j1 (.str _)⟩
     ·obtain⟨r,e,_⟩:=g2;cases e
  ·obtain⟨r,e,_⟩:=go;cases e
 ·exact cO hr.gd hr.units pins s σ H vs us Q I rs ⟨ρ,M,_,j,cv,go⟩
def w5(c:Str)(F:List D->DM D):D->D->DM D
 |.obj k ns vs,y=>if k=c then gq (gW c y) (F [.obj k ns vs,y]>>=vp) else stuck
 |x,y=>rd (b8 x y)
def Dv(c:Str)(F:List D->DM D):D->D->DM D
 |.obj k ns vs,y=>if k=c then gq (gW c y) (F [.obj k ns vs,y]>>=zG) else stuck
 |x,y=>rd (cR x y)
theorem sV (T:MethD X.prog X.w X.K X.mg X.base j c "__eq__" qual st ps F) (hr:Room k X.A) (hx:Passes (cM X.prog X.w) X E)
  (hb:∀(kV doc pm:Value) (an:Option Addr) (cdv ct:Value) (us:List Value),us.length=ps.length->bindArgs (PySem.W.fnOf "__eq__" qual (defArgs st) (defBody st) (defScope st) .none kV doc pm an cdv ct) ⟨us,[]⟩=pure (ps.zip us))
  (hjk:j+1≤k:=by decide):bM X E (compareOp .Eq) (w5 c F):=by
 obtain⟨C,f,fd,mc,G,B,a,n,cl⟩:=T.ex
 have MC:MethC X.prog X.w X.K X.mg X.base j C "__eq__" ps (pN X.mg F):=⟨f,fd,G,B.binds hb,B.kp,a,n⟩
 intro pins s σ H x y v u Q I rx ry q
 obtain⟨ρ,M,dx,dy,j,cx,cy,go⟩:=q
 unfold w5 at go
 split at go
 ·rename_i k' ns ws
  split at go
  ·rename_i hk
   subst hk
   cases cx with
   | obj hn m hh hl cs=>
     rw[mc] at m;cases m
     obtain⟨hg,go⟩:=go.when
     refine DK MC hr.units (hr.mono (by omega)) hx pins s σ H _ _ v u Q I rx ry ⟨_,_,_,rfl,hh,yC mc j cy hg,ρ,M,_,.cons (.obj hn mc hh hl cs) (.cons cy .nil),j,go.bind fun ρ1 H1 M1 b d e1 j1 c1 g2=>?_⟩
     unfold vp at g2
     split at g2
     ·cases c1
      exact⟨_,rfl,g2.pure ρ1 H1 _ .refl j1 (.bl _)⟩
     ·obtain⟨r,e,_⟩:=g2;cases e
  ·obtain⟨r,e,_⟩:=go;cases e
 ·exact bJ hr.units pins s σ H x y v u Q I rx ry ⟨ρ,M,_,_,j,cx,cy,go⟩
theorem xR (T:MethD X.prog X.w X.K X.mg X.base j c "__eq__" qual st ps F) (O:OwnC X.K X.mg c) (hr:Room k X.A) (hx:Passes (cM X.prog X.w) X E)
  (hb:∀(kV doc pm:Value) (an:Option Addr) (cdv ct:Value) (us:List Value),us.length=ps.length->bindArgs (PySem.W.fnOf "__eq__" qual (defArgs st) (defBody st) (defScope st) .none kV doc pm an cdv ct) ⟨us,[]⟩=pure (ps.zip us))
  (hjk:j+1≤k:=by decide):bM X E (compareOp .NotEq) (Dv c F):=by
 obtain⟨C,f,fd,mc,G,B,a,n,cl⟩:=T.ex
 obtain⟨C',mc',ok⟩:=O.ex
 rw[mc] at mc';cases mc'
 have MC:MethC X.prog X.w X.K X.mg X.base j C "__eq__" ps (pN X.mg F):=⟨f,fd,G,B.binds hb,B.kp,a,n⟩
 intro pins s σ H x y v u Q I rx ry q
 obtain⟨ρ,M,dx,dy,j,cx,cy,go⟩:=q
 unfold Dv at go
 split at go
 ·rename_i k' ns ws
  split at go
  ·rename_i hk
   subst hk
   cases cx with
   | obj hn m hh hl cs=>
     rw[mc] at m;cases m
     obtain⟨hg,go⟩:=go.when
     refine DQ MC ok.ne ok.mro hr.units (hr.mono hjk) hx pins s σ H _ _ v u Q I rx ry ⟨_,_,_,rfl,hh,yC mc j cy hg,ρ,M,_,.cons (.obj hn mc hh hl cs) (.cons cy .nil),j,go.bind fun ρ1 H1 M1 b d e1 j1 c1 g2=>?_⟩
     unfold zG at g2
     split at g2
     ·cases c1
      exact⟨_,rfl,g2.pure ρ1 H1 _ .refl j1 (.bl _)⟩
     ·obtain⟨r,e,_⟩:=g2;cases e
  ·obtain⟨r,e,_⟩:=go;cases e
 ·exact cX hr.units pins s σ H x y v u Q I rx ry ⟨ρ,M,_,_,j,cx,cy,go⟩
def lC(c:Str):List D->Mo->Option D
 |[d,.cls c'],M=>if c'=c then (if gW c d M=true then some (.bl (match d with | .obj _ _ _=>true | _=>false)) else none) else none
 |l,M=>eE l M
theorem wJ (O:OwnC X.K X.mg c):CallD X E (.builtin "isinstance") (fun l=>rd (lC c l)):=by
 obtain⟨C,mc,ok⟩:=O.ex
 intro pins s σ H vs us Q I rs q
 obtain⟨ρ,M,ds,j,cv,go⟩:=q
 by_cases hd:∃d c',ds=[d,.cls c']
 ·obtain ⟨d,c',rfl⟩:=hd
  obtain⟨r,e,p⟩:=go.rd
  simp only[lC] at e
  split at e
  ·rename_i hc
   subst hc
   split at e
   ·rename_i hg
    cases e
    obtain⟨v,w,rfl,k1,k2⟩:=cv.two
    cases k2 with
    | cls h=>
      rw[mc] at h;cases h
      refine wH (by unfold PySem.W.kitOne;rw[if_pos (by simp)]) ok.cc ok.gs ok.tk ok.mro ok.cls pins s σ H _ us Q I rs ⟨_,rfl,?_⟩
      cases d with
      | obj k' ns ws=>
        have hk:k'=c':=by simpa[gW] using hg
        subst hk
        cases k1 with
        |obj hn m hh hl cs=>
          rw[mc] at m;cases m
          exact .inl ⟨_,_,_,rfl,hh,p ρ H _ .refl j (.bl _)⟩
      |_=>
        simp only[gW] at hg
        obtain⟨t,ht⟩:=Option.isSome_iff_exists.mp hg
        exact .inr ⟨t,wz j k1 ht,ok.kit t (oG ht),p ρ H _ .refl j (.bl _)⟩
   ·cases e
  ·cases e
 ·have e:(rd (lC c ds):DM D)=rd (eE ds):=by
   congr 1
   funext M
   unfold lC
   split
   ·exact absurd ⟨_,_,rfl⟩ hd
   ·rfl
  have go':Go X.mg E _ _ ρ H (rd (lC c ds)) M:=go
  rw[e] at go'
  exact bU pins s σ H vs us Q I rs ⟨ρ,M,_,j,cv,go'⟩
end
end L3
namespace L3
open PySem PySem.Spec L2 PyProof.Rows
section
variable{X:Cx}{E:XK}{a:Expr}{fa:aa->DM D}{p1 p2 p3 pos:Pos}
def vB:D->Mo->Option D
 |.tup l,M=>eG [.tup l] M
 |_,_=>none
theorem Bb (hg:X.A.guards=some []) (hu:X.A.units + 64<cLine) (ha:DE X E a fa):DE X E (.FormattedValue a 114 none pos) (fun δ=>fa δ >>= fun x=>rd (vB x)):=⟨PE.mono (BJ hg hu ha.h) fun σ H Q h=>by
 obtain⟨ρ,δ,M,ev,j,g1⟩:=h
 refine⟨ρ,δ,M,ev,j,g1.bind fun ρ1 H1 M1 x dx e1 j1 c1 g2=>?_⟩
 obtain⟨d,e,q⟩:=g2.rd
 unfold vB at e
 split at e
 ·unfold eG at e
  simp only at e
  obtain⟨p,h1,e1⟩:=Option.bind_eq_some_iff.mp e
  split at e1
  ·rename_i hk
   cases e1
   simp only[Bool.and_eq_true,decide_eq_true_eq] at hk
   have key:∃f,RepF H1 f x p:=by
    unfold lF at h1
    split at h1
    ·rename_i h2
     cases h1;exact⟨true,c1.repF h2⟩
    ·exact⟨false,c1.repD h1⟩
   obtain⟨f,rp⟩:=key
   cases c1 with
   | tup n h c=>
     cases rp with
     |tup h' hs=>
       rw[h] at h';cases h'
       exact⟨f,_,_,_,rfl,h,hs,hk.1.1,hk.1.2,hk.2,q ρ1 H1 _ .refl j1 (.str _)⟩
     |lst h' _=>rw[h] at h';cases h'
     |d0 h'=>rw[h] at h';cases h'
     |d1 h'=>rw[h] at h';cases h'
  ·cases e1
 ·cases e⟩
def q8:List D->Option D
 |[.lst l]=>(intsOf l).bind fun ns=>if ns.length≤60 then some (.int (ns.foldl step_dedup []).length) else none
 |_=>none
theorem zf {fs:aa->DM (List D)} (hc:X.calm=true) (hmL:X.mg "len"=none) (hm:X.mg "set"=none) (ha:DA X E [a] fs) (hgL:Gl X "len":=by rfl) (hg:Gl X "set":=by rfl) (hs:notStar a=true:=by rfl) :
  DE X E (.Call (.Name "len" p1) [.Call (.Name "set" p2) [a] [] p3] [] pos) (fun δ=>fs δ>>=fun l=>opt (q8 l)):=⟨PE.mono (zM hc hgL hmL hg hm ha.h.h hs) fun σ H Q h=>by
 obtain⟨ρ,δ,M,ev,j,g1⟩:=h
 refine⟨ρ,δ,M,ev,j,g1.bind fun ρ1 H1 M1 xs ds e1 j1 c1 g2=>?_⟩
 obtain⟨d,ed,q⟩:=g2.opt
 unfold q8 at ed
 split at ed
 ·obtain⟨ns,h1,el⟩:=Option.bind_eq_some_iff.mp ed
  split at el
  ·rename_i hn
   cases el
   have e0:=lu h1
   subst e0
   obtain⟨v,rfl,k⟩:=c1.one
   cases k with
   |lst n h c=>exact⟨_,ns,rfl,by rw[h,nF c],hn,q ρ1 H1 _ .refl j1 (.int _)⟩
  ·cases el
 ·cases ed⟩
end
end L3
namespace N10
end N10
namespace K
open PySem L2 L3
theorem Af(l:List Str)(h:l.Nodup:=by decide):l.Nodup:=h
local macro_rules | `(tactic| trivial)=>`(tactic| refine⟨rfl,by decide +kernel,rfl,Fb ?_,fun m_=>CZ rfl,by decide,rfl,Bo rfl,Bp ?_,CV ?_⟩<;>((repeat' apply And.intro)<;>first | exact True.intro | rfl | exact Or.inl rfl | exact Or.inr rfl | exact⟨_,rfl⟩))
def top(i:Nat):Stmt:=PySem.Challenge.pw_fadewalk_k04_walks_known.main.body.getD i (.Pass ⟨0,0,0,0⟩)
abbrev pP:List Str:=["BadWalk", "NoLot", "NoWalk"]
abbrev Qd(k:Nat)(N:List Str)(x:Str)(st:Stmt)(Y:Program->World->PySem.W.Frag->Mg->Heap->Prop->Prop):={b:aa->DM Fl // ∀{P w K mg base f cdv A outer s H E},Y P w K mg base (Rm k A x st s f cdv->Ds P w K mg base N x st f cdv A outer s H E b)}
abbrev Qe(k:Nat)(N:List Str)(x:Str)(st:Stmt)(Y:(Nat->Str->List Str->Fn->Prop)->(Str->Prop)->Prop->Prop):=Qd k N x st fun P w K m o=>Y (DefD P w K m o) (Nn m)
abbrev Sc(N ps:List Str)(st:Stmt):=FnScope N ps (defScope st)
theorem dR{N P:List Str}{sc:Scope}(a:sc.kind=.function:=by exact rfl)(b:sc.isCoroutine=false:=by exact rfl)(c:sc.isGenerator=false:=by exact rfl)(p:N.take P.length=P:=by exact rfl)(d:(decide N.Nodup&&(decide (∀x∈P,sc.names.lookup x=some .local∨sc.names.lookup x=some .cell)&&decide (∀y∈sc.names,y.2≠.free)))=true:=by decide +kernel):FnScope N P sc:=Gy a b c p d
theorem qL{X:Cx}{E:XK}{scope:Scope}{cl:List (Str×Addr)}{elt i0:Expr}{p0 pos:Pos}{fi:aa->DM Itn}{fe:aa->DM D}(x:Str)(js:List Nat)(fr:List Str)(hi:DI X E (.Name x p0) i0 fi)
  (he:∀{pins m fp C s₂ H₂},DE (X.bf pins scope (cellsFrom m scope.names cl) ([x]++fr) fp C s₂ H₂) E0 elt fe) (T:CompG X scope cl [x] js fr:=by trivial) (hc:X.calm=true:=by exact rfl)
  (nd:([x]++fr).Nodup:=by decide) (hl:∀m C Z,(compEnvC scope (cellsFrom m scope.names cl) C Z).scope.names.lookup x=some .local:=by intros;exact rfl)
  (hs:∀y,foldedSetIterable i0 X.env y=pure y:=by intro _;rfl) :
  DE X E (.ListComp elt [⟨.Name x p0,i0,[],0⟩] scope pos) (fun δ=>fi δ>>=fun it=>cN (cI (gN 0) (fun _=>pure true) (bR fe) it (aZ [x].length js δ) [])>>=fun p=>Out.val.run p.2):=
 rR (own:=[x]) .val hc T hi (fun _ _ _ _ _ _=>bF (i:=0) nd rfl (Or.inl (hl ..)) (Or.inr (hl ..))) (fun _ _ _ _ _ _=>pW) (fun _ _ _ _ _ _=>he) hs
section
variable(N:Nat)(v0 v1 v2 v3 v4 v5 v6 v7 v8 v9 v10 v11 v12 v13 v14 v15 v16 v17 v18 v19:Fn)
abbrev jT:Stmt:=top 7
theorem ue:Sc ["thing"] ["thing"] jT:=dR
@[simp] noncomputable def pI:Qe 0 ["thing"] "is_whole" jT fun D n Z=>n "bool"->n "int"->n "isinstance"->Z:=
 ⟨_,fun ya yb yc hr=>(aB (aH (dB (aL bU yc (aj (ao 0) (aj (fB (T := "int") yb) ak))) (dM (oX (aL bU yc (aj (ao 0) (aj (fB (T := "bool") ya) ak))))))))⟩
noncomputable def gh:=(pI).1
abbrev fY:Stmt:=top 10
theorem qu:Sc ["thing", "many"] ["thing", "many"] fY:=dR
@[simp] noncomputable def j9:Qe 1 ["thing", "many"] "are_weights" fY fun D n Z=>D 1 "is_whole" ["thing"] v0->n "all"->n "isinstance"->n "len"->n "tuple"->Z:=
 ⟨_,fun ya yb yc yd ye hr=>(aA (bL (DW.dt (fD (cD (bO (aL bU yc (aj (ao 0) (aj (fB (T := "tuple") ye) ak))) (fun _=>rfl))) (fQ (bj (cX hr.units) (aL call_lenD yd (aj (ao 0) ak)) (ao 1)))))
  (aB (aH cC))
  aW)
  (aB (aH (aL (fM hr.hd) yb (aj (qL "weight" [] [] (fO (ao 0)) (dB (aG ya hr jo (aj (ao 0) ak)) (dM (bN pB (ao 0) aq)))) ak)))))⟩
noncomputable def cP:=(j9 v0).1
abbrev jR:Stmt:=top 11
theorem ud:Sc ["thing", "many"] ["thing", "many"] jR:=dR
@[simp] noncomputable def pH:Qe 2 ["thing", "many"] "are_rows" jR fun D n Z=>D 2 "are_weights" ["thing", "many"] v0->n "all"->n "isinstance"->n "len"->n "tuple"->Z:=
 ⟨_,fun ya yb yc yd ye hr=>(aA (bL (DW.dt (fD (cD (bO (aL bU yc (aj (ao 0) (aj (fB (T := "tuple") ye) ak))) (fun _=>rfl))) (fQ (bj (cX hr.units) (aL call_lenD yd (aj (ao 0) ak)) (ao 1)))))
  (aB (aH cC))
  aW)
  (aB (aH (aL (fM hr.hd) yb (aj (qL "row" [1] ["many"] (fO (ao 0)) (aG ya hr jo (aj (ao 0) (aj (ao 1) ak)))) ak)))))⟩
noncomputable def d9:=(pH v0).1
abbrev eQ:Stmt:=top 13
theorem ik:Sc ["thing", "whole"] ["thing"] eQ:=dR
@[simp] noncomputable def iJ:Qd 3 ["thing", "whole"] "can_be_walked" eQ fun P w K m o Z=>∀{t_MOST_PLACES},DefD P w K m o 3 "are_rows" ["thing", "many"] v0->Gi m "MOST_PLACES" 25 t_MOST_PLACES->Nn m "all"->Nn m "isinstance"->Nn m "len"->Nn m "sum"->Nn m "tuple"->Z:=
 ⟨_,fun ya yb yc yd ye yf yg hr=>have nd:=ik.nd;(aA (bL (DW.dt (fD (cD (bO (aL bU yd (aj (ao 0) (aj (fB (T := "tuple") yg) ak))) (fun _=>rfl))) (fD (cD (rZ pC pC aq (aL call_lenD ye (aj (ao 0) ak)) (Ac yb))) (fQ (cD (bO (aG ya hr aO (aj (ao 0) (aj (aL call_lenD ye (aj (ao 0) ak)) ak))) (fun _=>rfl)))))))
  (aB (aH cC))
  aW)
  (aA (bh (i:=1) nd rfl (Or.inr rfl) (aL (dX hr.hd) yf (aj (cu cZ (ao 0) aq) ak)))
  (aB (aH (dB (bN pB (ao 1) aq) (dM (aL (fM hr.hd) yc (aj (qL "row" [1] ["whole"] (fO (ao 0)) (bN (bJ hr.units) (aL (dX hr.hd) yf (aj (ao 0) ak)) (ao 1))) ak))))))))⟩
noncomputable def bw:=(iJ v0).1
abbrev eN:Stmt:=inClass (top 14) 0
theorem n8:Sc ["self", "rows"] ["self", "rows"] eN:=dR
@[simp] noncomputable def iH:Qd 4 ["self", "rows"] "Walk.__init__" eN fun P w K m o Z=>∀{F0 t_MOST_PLACES C_Walk},DefD P w K m o 4 "can_be_walked" ["thing"] v0->XTab K m pP F0->Gi m "MOST_PLACES" 25 t_MOST_PLACES->OCls K m "Walk" C_Walk ["rows", "whole"]->Nn m "sum"->Z:=
 ⟨_,fun ya yb yc yd ye hr=>(aA (bL (cD (bO (aG ya hr aO (aj (ao 1) ak)) (fun _=>rfl)))
  (aB (zj yb (by decide) (rT cQ (CJ (Ac yc)) cQ)))
  aW)
  (aA (wV yd (by decide) (ao 0) (ao 1))
  (aB (wV yd (by decide) (ao 0) (aL (dX hr.hd) ye (aj (cu cZ (ao 1) aq) ak))))))⟩
noncomputable def d8:=(iH v0).1
abbrev dF:Stmt:=inClass (top 14) 1
theorem pL:Sc ["self"] ["self"] dF:=dR
@[simp] noncomputable def jq:Qd 0 ["self"] "Walk.__len__" dF fun P w K m o Z=>∀{C_Walk},OCls K m "Walk" C_Walk ["rows", "whole"]->Nn m "len"->Z:=
 ⟨_,fun ya yb hr=>(aB (aH (aL call_lenD yb (aj (jc ya (by decide) (ao 0)) ak))))⟩
noncomputable def iZ:=(jq).1
abbrev cW:Stmt:=inClass (top 14) 2
theorem qp:Sc ["self", "other"] ["self", "other"] cW:=dR
@[simp] noncomputable def j8:Qd 0 ["self", "other"] "Walk.__eq__" cW fun P w K m o Z=>∀{C_Walk},Gc m "Walk" C_Walk->OCls K m "Walk" C_Walk ["rows", "whole"]->OwnC K m "Walk"->Nn m "isinstance"->Z:=
 ⟨_,fun ya yb yc yd hr=>(aB (aH (dB (aL (wJ yc) yd (aj (ao 1) (aj (oW ya) ak))) (dM (bN (bJ hr.units) (jc yb (by decide) (ao 0)) (jc yb (by decide) (ao 1)))))))⟩
noncomputable def fV:=(j8).1
abbrev du:Stmt:=inClass (top 14) 3
theorem oh:Sc ["self"] ["self"] du:=dR
@[simp] noncomputable def iI:Qd 0 ["self"] "Walk.__repr__" du fun P w K m o Z=>∀{C_Walk},OCls K m "Walk" C_Walk ["rows", "whole"]->Z:=
 ⟨_,fun ya hr=>(aB (aH (rT cQ (Bb hr.gd hr.units (jc ya (by decide) (ao 0))) cQ)))⟩
noncomputable def iu:=(iI).1
abbrev fu:Stmt:=top 16
theorem pM:Sc ["_law_script", "_law_k"] ["_law_script", "_law_k"] fu:=dR
@[simp] noncomputable def jr:Qe 0 ["_law_script", "_law_k"] "_law_cell_at" fu fun D n Z=>n "len"->Z:=
 ⟨_,fun ya hr=>(aA (bL (bj sX (ao 1) (aL call_lenD ya (aj (ao 0) ak)))
  (aB (aH (cu cZ (ao 0) (ao 1))))
  aW)
  (aB (aH aq)))⟩
noncomputable def eV:=(jr).1
abbrev jP:Stmt:=top 17
theorem m9:Sc ["_law_cell", "_law_number", "_law_j", "_law_more"] ["_law_cell"] jP:=dR
@[simp] noncomputable def pF:Qe 0 ["_law_cell", "_law_number", "_law_j", "_law_more"] "_law_pot" jP fun D n Z=>n "range"->Z:=
 ⟨_,fun ya hr=>have nd:=m9.nd;(aA (bL (bj pB (ao 0) (aD jn aq aq))
  (aB (aH (pR (aj (aD uD (ao 0) (aD jn aq aq)) ak))))
  aW)
  (aA (bh (i:=1) nd rfl (Or.inl rfl) aq)
  (aA (jh 0 PassesOwn.leaving rfl (iB rfl ya (aj aq ak)) (bF (i:=2) nd rfl (Or.inl rfl))
  (aA (bh (i:=3) nd rfl (Or.inl rfl) (aD eZ (aD gC (aD aJ (aD aJ (aD eZ (ao 0) aq) (aD gC aq (ao 2))) aq) aq) aq))
  (aA (bh (i:=3) nd rfl (Or.inl rfl) (aD eZ (aD aJ (aD aJ (aD gC (ao 3) (ao 3)) (aD gC aq (ao 2))) aq) aq))
  (aB (bh (i:=1) nd rfl (Or.inl rfl) (aD aJ (aD gC (ao 1) aq) (ao 3)))))))
  (aB (aH (pR (aj (ao 1) ak)))))))⟩
noncomputable def jC:=(pF).1
abbrev iW:Stmt:=top 18
theorem lU:Sc ["_law_pot_here", "_law_far", "_law_found"] ["_law_pot_here", "_law_far"] iW:=dR
@[simp] noncomputable def mZ:Qe 0 ["_law_pot_here", "_law_far", "_law_found"] "_law_take" iW fun _ _ Z=>Z:=
 ⟨_,fun  hr=>have nd:=lU.nd;(aA (bh (i:=2) nd rfl (Or.inl rfl) (aD eZ (cu cZ (ao 0) aq) (ao 1)))
  (aA (jg (aD nY (cu cZ (ao 0) aq) (ao 1)) (oY (ao 0) aq rB))
  (aB (aH (ao 2)))))⟩
noncomputable def mV:=(mZ).1
abbrev g8:Stmt:=top 19
theorem qX:Sc ["_law_thing"] ["_law_thing"] g8:=dR
@[simp] noncomputable def lH:Qe 0 ["_law_thing"] "_law_whole" g8 fun D n Z=>n "bool"->n "int"->n "isinstance"->Z:=
 ⟨_,fun ya yb yc hr=>(aB (aH (dB (aL bU yc (aj (ao 0) (aj (fB (T := "int") yb) ak))) (dM (oX (aL bU yc (aj (ao 0) (aj (fB (T := "bool") ya) ak))))))))⟩
noncomputable def gK:=(lH).1
abbrev gY:Stmt:=top 20
theorem kj:Sc ["_law_pot_here", "_law_some", "_law_left"] ["_law_pot_here", "_law_some"] gY:=dR
@[simp] noncomputable def gU:Qe 1 ["_law_pot_here", "_law_some", "_law_left"] "_law_mixed" gY fun D n Z=>D 1 "_law_take" ["_law_pot_here", "_law_far"] v0->n "len"->n "list"->Z:=
 ⟨_,fun ya yb yc hr=>have nd:=kj.nd;(aA (bh (i:=2) nd rfl (Or.inr rfl) (iQ (T := "list") oR yc (aj (ao 1) ak)))
  (aB (aH (qL "_law_one" [2,0] ["_law_left", "_law_pot_here"] (jf (ao 1)) (vA PySem.F.plainAttrs_list PySem.F.slot_list_pop PySem.F.type_list_pop Bl (ao 1) (aj (aG ya hr jo (aj (ao 2) (aj (aL call_lenD yb (aj (ao 1) ak)) ak))) ak))))))⟩
noncomputable def kW:=(gU v0).1
abbrev jO:Stmt:=top 21
theorem m8:Sc ["_law_pot_here", "_law_some"] ["_law_pot_here"] jO:=dR
@[simp] noncomputable def jN:Qe 1 ["_law_pot_here", "_law_some"] "_law_odd" jO fun D n Z=>D 1 "_law_take" ["_law_pot_here", "_law_far"] v0->n "len"->Z:=
 ⟨_,fun ya yb hr=>have nd:=m8.nd;(aA (bh (i:=1) nd rfl (Or.inl rfl) (bC (aj rW (aj cC (aj cC (aj (je aq) (aj (aD jn aq aq) (aj cQ (aj cQ (aj cQ (aj (aK ak) (aj (bC ak) (aj Az (aj (bC (aj (aK ak) ak)) (aj (aK (aj (aK ak) ak)) (aj (aK (aj aq ak)) (aj (bC (aj aq ak)) (aj Ba (aj (aK (aj cC (aj cC ak))) ak)))))))))))))))))))
  (aB (aH (cu cZ (ao 1) (aG ya hr aO (aj (ao 0) (aj (aL call_lenD yb (aj (ao 1) ak)) ak)))))))⟩
noncomputable def oN:=(jN v0).1
abbrev fK:Stmt:=top 22
theorem ig:Sc ["_law_pot_here", "_law_thing", "_law_way", "_law_at"] ["_law_pot_here", "_law_thing"] fK:=dR
@[simp] noncomputable def iR(v0 v1 v2 v3:Fn):{b // ∀{P w K mg base f cdv A outer s H E k_} (hk_:2≤k_) (ya:DefD P w K mg base 1 "_law_take" ["_law_pot_here", "_law_far"] v0) (yb:DefD P w K mg base 1 "_law_whole" ["_law_thing"] v1) (yc:DefD P w K mg base 2 "_law_odd" ["_law_pot_here"] v2) (yd:DefD P w K mg base k_ "_law_bent" ["_law_pot_here", "_law_thing"] v3) (ye:Nn mg "isinstance") (yf:Nn mg "len") (yg:Nn mg "list") (yh:Nn mg "tuple") (hq_:Rm k_ A "_law_bent" fK s f cdv),Ds P w K mg base ["_law_pot_here", "_law_thing", "_law_way", "_law_at"] "_law_bent" fK f cdv A outer s H E b}:=
 ⟨_,fun hk_ ya yb yc yd ye yf yg yh hq_=>have hr:=hq_.mono hk_;have nd:=ig.nd;(aA (bL (cD (bO (aL bU ye (aj (ao 1) (aj (fB (T := "tuple") yh) ak))) (fun _=>rfl)))
  (aA (bL (DW.dt (wX (bO (aG yb hr aO (aj (ao 1) ak)) (fun _=>rfl)) (ut (bj sW (aG ya hr aO (aj (ao 0) (aj aq ak))) aq))))
  (aB (aH (aD aJ (ao 1) (cu cZ (bC (aj aq (aj (je aq) (aj aq (aj aq (aj aq (aj (je (aD jn aq aq)) ak))))))) (aG ya hr aO (aj (ao 0) (aj aq ak)))))))
  aW)
  (aB (aH (aG yc hr aO (aj (ao 0) ak)))))
  aW)
  (aA (bh (i:=2) nd rfl (Or.inl rfl) (aG ya hr aO (aj (ao 0) (aj aq ak))))
  (aA (bL (DW.dt (fD (bj (bJ hr.units) (ao 2) aq) (fQ (bj (Bs hr.units) (ao 1) (aK ak)))))
  (aB (aH (cu cZ (bC (aj (aG yc hr aO (aj (ao 0) ak)) (aj (iQ (T := "list") jD yg (aj (ao 1) ak)) (aj (aD aJ (ao 1) (aK (aj (aG yc hr aO (aj (ao 0) ak)) ak))) (aj (aD aJ (ao 1) (bx (ao 1) (bH (je aq)) bV)) ak))))) (aG ya hr aO (aj (ao 0) (aj aq ak))))))
  aW)
  (aA (bh (i:=3) nd rfl (Or.inl rfl) (aG ya hr aO (aj (ao 0) (aj (aL call_lenD yf (aj (ao 1) ak)) ak))))
  (aA (bL (bj (bJ hr.units) (ao 2) aq)
  (aB (aH (aD aJ (bx (ao 1) bV (bH (ao 3))) (bx (ao 1) (bH (aD aJ (ao 3) aq)) bV))))
  aW)
  (aA (bL (bj (bJ hr.units) (ao 2) aq)
  (aB (aH (aD aJ (aD aJ (bx (ao 1) bV (bH (ao 3))) (bx (ao 1) (bH (ao 3)) (bH (aD aJ (ao 3) aq)))) (bx (ao 1) (bH (ao 3)) bV))))
  aW)
  (aB (aH (aD aJ (aD aJ (bx (ao 1) bV (bH (ao 3))) (aK (aj (aG yd hq_ aO (aj (ao 0) (aj (cu cZ (ao 1) (ao 3)) ak)) (Nat.le_refl _)) ak))) (bx (ao 1) (bH (aD aJ (ao 3) aq)) bV))))))))))⟩
noncomputable def mR:=(iR v0 v1 v2 v3).1
abbrev jQ:Stmt:=top 23
theorem ni:Sc ["_law_pot_here", "_law_wide", "_law_whole_here", "_law_some", "_law_found", "_law_left", "_law_order", "_law_place", "_law_part"] ["_law_pot_here", "_law_wide", "_law_whole_here", "_law_some"] jQ:=dR
@[simp] noncomputable def pG:Qe 2 ["_law_pot_here", "_law_wide", "_law_whole_here", "_law_some", "_law_found", "_law_left", "_law_order", "_law_place", "_law_part"] "_law_row" jQ fun D n Z=>D 2 "_law_mixed" ["_law_pot_here", "_law_some"] v0->D 1 "_law_take" ["_law_pot_here", "_law_far"] v1->n "tuple"->Z:=
 ⟨_,fun ya yb yc hr=>have nd:=ni.nd;(aA (Bd (i:=4) (j:=5) (k:=6) rfl nd rfl rfl rfl (by decide) (by decide) (by decide) rfl rfl rfl (aj (aD Bx (bC (aj aq ak)) (ao 1)) (aj (ao 2) (aj (aG ya hr aO (aj (ao 0) (aj (ao 3) ak))) ak))) rfl)
  (aA (jh 0 PassesOwn.leaving rfl (jf (bx (ao 6) (bH aq) bV)) (bF (i:=7) nd rfl (Or.inl rfl))
  (aA (bh (i:=8) nd rfl (Or.inl rfl) (cu cZ (bC (aj aq (aj (ao 5) (aj (aG yb hr aO (aj (ao 0) (aj (aD aJ (ao 5) aq) ak))) ak)))) (aG yb hr aO (aj (ao 0) (aj aq ak)))))
  (aB (jg (aK (aj (ao 8) (aj (aD uD (ao 5) (ao 8)) ak))) (rY (n:=2) rfl (eX (oY (ao 4) (ao 7) rB) (eX (bF (i:=5) nd rfl (Or.inl rfl)) pU)))))))
  (aA (jg (ao 5) (oY (ao 4) (cu cZ (ao 6) aq) rB))
  (aB (aH (iQ (T := "tuple") dJ yc (aj (ao 4) ak)))))))⟩
noncomputable def oO:=(pG v0 v1).1
abbrev iV:Stmt:=top 24
theorem lQ:Sc ["_law_pot_here", "_law_top", "_law_wide", "_law_whole_here", "_law_kind", "_law_rows_here", "_law_x", "_law_some"] ["_law_pot_here", "_law_top"] iV:=dR
@[simp] noncomputable def iT:Qe 3 ["_law_pot_here", "_law_top", "_law_wide", "_law_whole_here", "_law_kind", "_law_rows_here", "_law_x", "_law_some"] "_law_rows" iV fun D n Z=>D 1 "_law_take" ["_law_pot_here", "_law_far"] v0->D 3 "_law_row" ["_law_pot_here", "_law_wide", "_law_whole_here", "_law_some"] v1->n "list"->n "range"->n "set"->n "sorted"->n "tuple"->Z:=
 ⟨_,fun ya yb yc yd ye yf yg hr=>have nd:=lQ.nd;(aA (jg (aK (aj (aD aJ aq (aG ya hr aO (aj (ao 0) (aj (ao 1) ak)))) (aj (cu cZ (bC (aj aq (aj aq (aj aq (aj aq (aj aq ak)))))) (aG ya hr aO (aj (ao 0) (aj aq ak)))) ak))) (rY (n:=2) rfl (eX (bF (i:=2) nd rfl (Or.inr rfl)) (eX (bF (i:=3) nd rfl (Or.inl rfl)) pU))))
  (aA (oZ (i:=4) (j:=5) rfl nd rfl rfl (by decide) rfl rfl (aj (aG ya hr aO (aj (ao 0) (aj aq ak))) (aj (pR ak) ak)) rfl)
  (aA (jh 0 PassesOwn.leaving rfl (iB rfl yd (aj (ao 2) ak)) (bF (i:=6) nd rfl (Or.inr rfl))
  (aA (bh (i:=7) nd rfl (Or.inl rfl) (wU rfl yc yd (aj (ao 2) ak)))
  (aA (bL (bj (bJ hr.units) (ao 4) aq)
  (aB (nH (i:=7) (own:=["_law_y"]) (js:=[2,6]) (fr:=["_law_wide", "_law_x"]) .val nd rfl (Or.inl rfl) rfl (by trivial) (jf (ao 7)) (fun _ _ _ _ _ _=>(bF (i:=0) (Af ["_law_y", "_law_wide", "_law_x"]) rfl (Or.inl rfl))) (fun _ _ _ _ _ _=>(ur (bj (bJ hr.units) (bN sX (ao 0) (aD nY (ao 1) aq)) (bN sX (ao 2) (aD nY (ao 1) aq))))) (fun _ _ _ _ _ _=>(ao 0))))
  aW)
  (aA (bL (DW.dt (wX (bj (bJ hr.units) (ao 4) aq) (ut (bj sW (ao 2) aq))))
  (aB (nH (i:=7) (own:=["_law_y"]) (js:=[6]) (fr:=["_law_x"]) .val nd rfl (Or.inl rfl) rfl (by trivial) (jf (ao 7)) (fun _ _ _ _ _ _=>(bF (i:=0) (Af ["_law_y", "_law_x"]) rfl (Or.inl rfl))) (fun _ _ _ _ _ _=>(ur (bj (cX hr.units) (aD eZ (ao 0) aq) (aD eZ (ao 1) aq)))) (fun _ _ _ _ _ _=>(ao 0))))
  aW)
  (aA (bL (bj (bJ hr.units) (ao 4) aq)
  (aB (bh (i:=7) nd rfl (Or.inl rfl) (Bc rfl yf ye (aj (bC (aj (ao 6) (aj (aD eZ (aD aJ (ao 6) aq) (ao 2)) ak))) ak))))
  aW)
  (aB (uq (vA PySem.F.plainAttrs_list PySem.F.slot_list_append PySem.F.type_list_append uA (ao 5) (aj (aG yb hr aO (aj (ao 0) (aj (ao 2) (aj (ao 3) (aj (ao 7) ak))))) ak)))))))))
  (aB (aH (iQ (T := "tuple") dJ yg (aj (ao 5) ak)))))))⟩
noncomputable def mU:=(iT v0 v1).1
abbrev iU:Stmt:=top 25
theorem lO:Sc ["_law_rows_here", "e", "_law_good"] ["_law_rows_here"] iU:=dR
@[simp] noncomputable def fJ:Qd 6 ["_law_rows_here", "e", "_law_good"] "_law_made" iU fun P w K m o Z=>∀{F0 C_BadWalk C_NoLot C_NoWalk},ClsD P w K m o 5 "Walk" v0->XTab K m pP F0->Gc m "BadWalk" C_BadWalk->Gc m "NoLot" C_NoLot->Gc m "NoWalk" C_NoWalk->Gc m "FadeError" F0->Nn m "isinstance"->Z:=
 ⟨_,fun ya yb yc yd ye yf yg hr=>have nd:=lO.nd;(aB (CK 3 (fh:=fun c=>(ou (fun δ=>(fun δ=>(fun δ=>(fun δ=>(gO 1) δ>>=fun x=>(fun δ=>(fun _=>pure (D.cls "BadWalk")) δ>>=fun x=>(fun _=>pure []) δ>>=fun xs=>pure (x::xs)) δ>>=fun xs=>pure (x::xs)) δ>>=fun l=>rd (sO pP c l)) δ>>=fun x=>dm x>>=fun k=>if k then (fun δ=>(fun δ=>(fun δ=>(fun δ=>(gO 1) δ>>=fun x=>(fun δ=>(fun _=>pure (D.cls "NoLot")) δ>>=fun x=>(fun _=>pure []) δ>>=fun xs=>pure (x::xs)) δ>>=fun xs=>pure (x::xs)) δ>>=fun l=>rd (sO pP c l)) δ>>=fun x=>dm x>>=fun k=>pure (D.bl (!k))) δ>>=fun x=>dm x>>=fun k=>if k then (fun δ=>(fun δ=>(fun δ=>(gO 1) δ>>=fun x=>(fun δ=>(fun _=>pure (D.cls "NoWalk")) δ>>=fun x=>(fun _=>pure []) δ>>=fun xs=>pure (x::xs)) δ>>=fun xs=>pure (x::xs)) δ>>=fun l=>rd (sO pP c l)) δ>>=fun x=>dm x>>=fun k=>pure (D.bl (!k))) δ else pure (D.bl false)) δ else pure (D.bl false)) δ>>=fun d=>pure (Fl.nx (δ.set 2 (some d))))
  (fun δ=>(fun δ=>(fun δ=>(gO 2) δ>>=fun x=>rd (lW x)) δ>>=fun k=>if k then (fun _=>pure (D.str "bad")) δ else (fun _=>pure (D.str "other")) δ) δ>>=fun d=>pure (Fl.rt d)))) (fy:=fun y c=>(ou (fun δ=>(fun δ=>(fun δ=>(fun δ=>(gO 1) δ>>=fun x=>(fun δ=>(fun _=>pure (D.cls "BadWalk")) δ>>=fun x=>(fun _=>pure []) δ>>=fun xs=>pure (x::xs)) δ>>=fun xs=>pure (x::xs)) δ>>=fun l=>rd (nQ pP y c l)) δ>>=fun x=>dm x>>=fun k=>if k then (fun δ=>(fun δ=>(fun δ=>(fun δ=>(gO 1) δ>>=fun x=>(fun δ=>(fun _=>pure (D.cls "NoLot")) δ>>=fun x=>(fun _=>pure []) δ>>=fun xs=>pure (x::xs)) δ>>=fun xs=>pure (x::xs)) δ>>=fun l=>rd (nQ pP y c l)) δ>>=fun x=>dm x>>=fun k=>pure (D.bl (!k))) δ>>=fun x=>dm x>>=fun k=>if k then (fun δ=>(fun δ=>(fun δ=>(gO 1) δ>>=fun x=>(fun δ=>(fun _=>pure (D.cls "NoWalk")) δ>>=fun x=>(fun _=>pure []) δ>>=fun xs=>pure (x::xs)) δ>>=fun xs=>pure (x::xs)) δ>>=fun l=>rd (nQ pP y c l)) δ>>=fun x=>dm x>>=fun k=>pure (D.bl (!k))) δ else pure (D.bl false)) δ else pure (D.bl false)) δ>>=fun d=>pure (Fl.nx (δ.set 2 (some d))))
  (fun δ=>(fun δ=>(fun δ=>(gO 2) δ>>=fun x=>rd (lW x)) δ>>=fun k=>if k then (fun _=>pure (D.str "bad")) δ else (fun _=>pure (D.str "other")) δ) δ>>=fun d=>pure (Fl.rt d)))) (i:=1) yb rfl rfl rfl rfl rfl nd rfl rfl yf (fun pins_ Eh_=>(aB (aH (mj ya hr (FZ rfl rfl rfl) (aj (ao 0) ak)))))
  (fun c C y oe hc_ hm_ ho_ xa_=>(aA (bh (i:=2) nd rfl (Or.inl rfl) (dB (aL (kY yb hc_ hm_ ho_ xa_ (List.mem_append_right _ List.mem_cons_self)) yg (aj (ao 1) (aj (oW yc) ak))) (dB (oX (aL (kY yb hc_ hm_ ho_ xa_ (List.mem_append_right _ List.mem_cons_self)) yg (aj (ao 1) (aj (oW yd) ak)))) (dM (oX (aL (kY yb hc_ hm_ ho_ xa_ (List.mem_append_right _ List.mem_cons_self)) yg (aj (ao 1) (aj (oW ye) ak))))))))
  (aB (aH (Fx (bO (ao 2) (fun _=>rfl)) cQ cQ))))) (fun y c M r h=>by rw[←h];simp[ou,gO,Hk,Hf,Fv,Ab])))⟩
noncomputable def dI:=(fJ v0).1
abbrev eO:Stmt:=top 26
theorem ie:Sc ["_law_thing", "_law_row_here"] ["_law_thing"] eO:=dR
@[simp] noncomputable def eF:Qe 1 ["_law_thing", "_law_row_here"] "_law_are_rows" eO fun D n Z=>D 1 "_law_whole" ["_law_thing"] v0->n "all"->n "isinstance"->n "len"->n "set"->n "sum"->n "tuple"->Z:=
 ⟨_,fun ya yb yc yd ye yf yg hr=>have nd:=ie.nd;(aA (bL (DW.dt (fD (cD (bO (aL bU yc (aj (ao 0) (aj (fB (T := "tuple") yg) ak))) (fun _=>rfl))) (fQ (cD (rZ pC pC aq (aL call_lenD yd (aj (ao 0) ak)) aq)))))
  (aB (aH cC))
  aW)
  (aA (jh 0 PassesOwn.leaving rfl (fO (ao 0)) (bF (i:=1) nd rfl (Or.inl rfl))
  (aA (bL (DW.dt (fD (cD (bO (aL bU yc (aj (ao 1) (aj (fB (T := "tuple") yg) ak))) (fun _=>rfl))) (fQ (bj (cX hr.units) (aL call_lenD yd (aj (ao 1) ak)) (aL call_lenD yd (aj (ao 0) ak))))))
  (aB (aH cC))
  aW)
  (aB (bL (cD (bO (aL (fM hr.hd) yb (aj (qL "_law_weight" [] [] (fO (ao 1)) (dB (aG ya hr jo (aj (ao 0) ak)) (dM (bN pB (ao 0) aq)))) ak)) (fun _=>rfl)))
  (aB (aH cC))
  aW))))
  (aB (aH (dB (bN (bJ hr.units) (zf rfl yd ye (aj (qL "_law_row_here" [] [] (fO (ao 0)) (aL (dX hr.hd) yf (aj (ao 0) ak))) ak)) aq) (dM (bN sW (aL (dX hr.hd) yf (aj (cu cZ (ao 0) aq) ak)) aq)))))))⟩
noncomputable def cB:=(eF v0).1
abbrev gZ:Stmt:=top 27
theorem km:Sc ["_law_thing", "_law_kept", "_law_found", "_law_again", "_law_others"] ["_law_thing"] gZ:=dR
@[simp] noncomputable def lG:Qd 7 ["_law_thing", "_law_kept", "_law_found", "_law_again", "_law_others"] "_law_right" gZ fun P w K m o Z=>∀{C_Walk},DefD P w K m o 7 "_law_made" ["_law_rows_here"] v0->DefD P w K m o 2 "_law_are_rows" ["_law_thing"] v1->ClsD P w K m o 5 "Walk" v2->MethD P w K m o 1 "Walk" "__len__" "Walk.__len__" dF ["self"] v3->MethD P w K m o 1 "Walk" "__eq__" "Walk.__eq__" cW ["self", "other"] v4->MethD P w K m o 1 "Walk" "__repr__" "Walk.__repr__" du ["self"] v5->OCls K m "Walk" C_Walk ["rows", "whole"]->OwnC K m "Walk"->Nn m "len"->Nn m "repr"->Nn m "sum"->Z:=
 ⟨_,fun ya yb yc yd ye yf yg yh yi yj yk hr=>have nd:=km.nd;(aA (jg (aK (aj (aL (cO hr.gd hr.units) yj (aj (ao 0) ak)) (aj (aG ya hr aO (aj (ao 0) ak)) ak))) (rY (n:=2) rfl (eX (bF (i:=1) nd rfl (Or.inl rfl)) (eX (bF (i:=2) nd rfl (Or.inr rfl)) pU))))
  (aA (bL (cD (bO (aG yb hr aO (aj (ao 0) ak)) (fun _=>rfl)))
  (aB (aH (dB (bN (bJ hr.units) (ao 2) cQ) (dM (bN (bJ hr.units) (aL (cO hr.gd hr.units) yj (aj (ao 0) ak)) (ao 1))))))
  aW)
  (aA (bL (bj (cX hr.units) (aL (cO hr.gd hr.units) yj (aj (bC (aj (jc yg (by decide) (ao 2)) (aj (jc yg (by decide) (ao 2)) (aj (aL (wL yd hr aO (fun _ _ _ _ _ _ us hl=>by obtain⟨_,rfl⟩:=vD hl;rfl)) yi (aj (ao 2) ak)) ak)))) ak)) (aL (cO hr.gd hr.units) yj (aj (bC (aj (ao 0) (aj (aL (dX hr.hd) yk (aj (cu cZ (ao 0) aq) ak)) (aj (aL call_lenD yi (aj (ao 0) ak)) ak)))) ak)))
  (aB (aH cC))
  aW)
  (aA (bh (i:=3) nd rfl (Or.inl rfl) (mj yc hr aO (aj (ao 0) ak)))
  (aA (bL (DW.dt (fD (bj (cX hr.units) (aL (oU yf hr aO (fun _ _ _ _ _ _ us hl=>by obtain⟨_,rfl⟩:=vD hl;rfl)) yj (aj (ao 2) ak)) (aD aJ (aD aJ cQ (aL (cO hr.gd hr.units) yj (aj (ao 0) ak))) cQ)) (fD (cD (bj (sV ye hr aO (fun _ _ _ _ _ _ us hl=>by obtain⟨_,_,rfl⟩:=qb hl;rfl)) (ao 2) (ao 3))) (fQ (bj (xR ye yh hr aO (fun _ _ _ _ _ _ us hl=>by obtain⟨_,_,rfl⟩:=qb hl;rfl)) (ao 2) (ao 3))))))
  (aB (aH cC))
  aW)
  (aA (nH (i:=4) (own:=["_law_other"]) (js:=[2]) (fr:=["_law_found"]) .val nd rfl (Or.inl rfl) rfl (by trivial) (jf (bC (aj (ao 0) (aj (aL (oU yf hr aO (fun _ _ _ _ _ _ us hl=>by obtain⟨_,rfl⟩:=vD hl;rfl)) yj (aj (ao 2) ak)) (aj rW (aj (aL call_lenD yi (aj (ao 0) ak)) ak)))))) (fun _ _ _ _ _ _=>(bF (i:=0) (Af ["_law_other", "_law_found"]) rfl (Or.inl rfl))) (fun _ _ _ _ _ _=>pW) (fun _ _ _ _ _ _=>(bN (sV ye hr jo (fun _ _ _ _ _ _ us hl=>by obtain⟨_,_,rfl⟩:=qb hl;rfl)) (ao 1) (ao 0))))
  (aB (aH (dB (bN (bJ hr.units) (ao 4) (aD Bw (bC (aj cC ak)) aq)) (dM (bN (bJ hr.units) (aL (cO hr.gd hr.units) yj (aj (ao 0) ak)) (ao 1))))))))))))⟩
noncomputable def gJ:=(lG v0 v1 v2 v3 v4 v5).1
abbrev vV:Stmt:=top 28
theorem yE:Sc ["_law_script", "_law_k", "_law_pot_here", "_law_rows_here", "_law_more", "_law_at", "_law_row_here", "_law_spot", "_law_things", "_law_turn", "_law_one", "_law_other"] ["_law_script"] vV:=dR
@[simp] noncomputable def vM:Qd 10 ["_law_script", "_law_k", "_law_pot_here", "_law_rows_here", "_law_more", "_law_at", "_law_row_here", "_law_spot", "_law_things", "_law_turn", "_law_one", "_law_other"] "law" vV fun P w K m o Z=>DefD P w K m o 1 "_law_cell_at" ["_law_script", "_law_k"] v0->DefD P w K m o 1 "_law_pot" ["_law_cell"] v1->DefD P w K m o 4 "_law_rows" ["_law_pot_here", "_law_top"] v2->DefD P w K m o 1 "_law_take" ["_law_pot_here", "_law_far"] v3->DefD P w K m o 2 "_law_odd" ["_law_pot_here"] v4->DefD P w K m o 10 "_law_bent" ["_law_pot_here", "_law_thing"] v5->DefD P w K m o 8 "_law_right" ["_law_thing"] v6->ClsD P w K m o 5 "Walk" v7->MethD P w K m o 1 "Walk" "__eq__" "Walk.__eq__" cW ["self", "other"] v8->OwnC K m "Walk"->Nn m "all"->Nn m "len"->Nn m "list"->Nn m "max"->Nn m "min"->Nn m "range"->Nn m "tuple"->Z:=
 ⟨_,fun ya yb yc yd ye yf yg yh yi yj yk yl ym yn yo yp yq hr=>have nd:=yE.nd;(aA (jh 0 PassesOwn.leaving rfl (iB rfl yp (aj (aL (vf rfl) yn (aj aq (aj (aL (vg rfl) yo (aj (aL call_lenD yl (aj (ao 0) ak)) (aj aq ak))) ak))) ak)) (bF (i:=1) nd rfl (Or.inl rfl))
  (aA (bh (i:=2) nd rfl (Or.inl rfl) (aG yb hr aO (aj (aG ya hr aO (aj (ao 0) (aj (ao 1) ak))) ak)))
  (aA (oZ (i:=3) (j:=4) rfl nd rfl rfl (by decide) rfl rfl (aj (aG yc hr aO (aj (ao 2) (aj aq ak))) (aj (aG yc hr aO (aj (ao 2) (aj aq ak))) ak)) rfl)
  (aA (oZ (i:=5) (j:=6) rfl nd rfl rfl (by decide) rfl rfl (aj (aG yd hr aO (aj (ao 2) (aj (aL call_lenD yl (aj (ao 3) ak)) ak))) (aj (iQ (T := "list") oR ym (aj (cu cZ (ao 3) (aG yd hr aO (aj (ao 2) (aj (aL call_lenD yl (aj (ao 3) ak)) ak)))) ak)) ak)) rfl)
  (aA (bh (i:=7) nd rfl (Or.inl rfl) (aG yd hr aO (aj (ao 2) (aj (aL call_lenD yl (aj (ao 6) ak)) ak))))
  (aA (jg (aD aJ (cu cZ (ao 6) (ao 7)) aq) (oY (ao 6) (ao 7) rB))
  (aA (bh (i:=8) nd rfl (Or.inl rfl) (bC (aj (ao 3) (aj (ao 4) (aj (aD aJ (aD aJ (bx (ao 3) bV (bH (ao 5))) (aK (aj (iQ (T := "tuple") dJ yq (aj (ao 6) ak)) ak))) (bx (ao 3) (bH (aD aJ (ao 5) aq)) bV)) (aj (bx (ao 3) bV (bH (je aq))) (aj (aD aJ (ao 3) (bx (ao 3) bV (bH aq))) (aj (iQ (T := "list") jD ym (aj (ao 3) ak)) (aj (aK ak) ak)))))))))
  (aA (bh (i:=8) nd rfl (Or.inl rfl) (aD aJ (ao 8) (bC (aj (aD aJ (aD aJ (bx (ao 3) bV (bH (ao 5))) (aK (aj (iQ (T := "list") jD ym (aj (cu cZ (ao 3) (ao 5)) ak)) ak))) (bx (ao 3) (bH (aD aJ (ao 5) aq)) bV)) (aj (aK (aj (aK (aj aq ak)) ak)) (aj (aK (aj (aK (aj aq ak)) ak)) (aj (aK (aj (aK (aj aq (aj aq ak))) (aj (aK (aj aq (aj aq ak))) ak))) ak)))))))
  (aA (bh (i:=8) nd rfl (Or.inl rfl) (aD aJ (ao 8) (bC (aj (cu cZ (ao 3) aq) (aj rW ak)))))
  (aA (bh (i:=8) nd rfl (Or.inl rfl) (aD aJ (ao 8) (bC (aj (aK (aj (aK (aj cC ak)) ak)) (aj (aK (aj (aK (aj aq (aj (je aq) ak))) (aj (aK (aj aq (aj aq ak))) ak))) (aj (iQ (T := "tuple") dJ yq (aj (rR (own:=["_law_one"]) (js:=[]) (fr:=[]) .val rfl (by trivial) (fO (ao 3)) (fun _ _ _ _ _ _=>(bF (i:=0) (Af ["_law_one"]) rfl (Or.inl rfl))) (fun _ _ _ _ _ _=>pW) (fun _ _ _ _ _ _=>(iQ (T := "tuple") dJ yq (aj (qL "_law_w" [] [] (fO (ao 0)) (aD gC aq (ao 0))) ak)))) ak)) ak))))))
  (aA (bh (i:=8) nd rfl (Or.inl rfl) (aD Bq (ao 8) (bC (aj (aD mD (aK (aj (aD mD (aK (aj aq ak)) aq) ak)) aq) (aj (aD mD (aK (aj (aD mD (aK (aj aq ak)) aq) ak)) aq) (aj (aG ye hr aO (aj (ao 2) ak)) (aj (aK (aj (aK (aj (aD jn aq aq) ak)) ak)) (aj (aK (aj (aK (aj aq (aj aq ak))) (aj (aK (aj aq (aj aq ak))) ak))) ak))))))))
  (aA (jh 0 PassesOwn.leaving rfl (iB rfl yp (aj aq ak)) (bF (i:=9) nd rfl (Or.inl rfl))
  (aB (uq (vA PySem.F.plainAttrs_list PySem.F.slot_list_append PySem.F.type_list_append uA (ao 8) (aj (aG yf hr aO (aj (ao 2) (aj (ao 3) ak))) ak)))))
  (aA (bL (cD (bO (aL (fM hr.hd) yk (aj (qL "_law_thing" [] [] (jf (ao 8)) (aG yg hr jo (aj (ao 0) ak))) ak)) (fun _=>rfl)))
  (aB (aH cC))
  aW)
  (aA (oZ (i:=10) (j:=11) rfl nd rfl rfl (by decide) rfl rfl (aj (mj yh hr aO (aj (ao 3) ak)) (aj (mj yh hr aO (aj (ao 4) ak)) ak)) rfl)
  (aB (bL (DW.dt (fD (bj (cX hr.units) (bN (sV yi hr aO (fun _ _ _ _ _ _ us hl=>by obtain⟨_,_,rfl⟩:=qb hl;rfl)) (ao 10) (ao 11)) (bN (bJ hr.units) (ao 3) (ao 4))) (fQ (bj (cX hr.units) (bN (xR yi yj hr aO (fun _ _ _ _ _ _ us hl=>by obtain⟨_,_,rfl⟩:=qb hl;rfl)) (ao 10) (ao 11)) (bN (cX hr.units) (ao 3) (ao 4))))))
  (aB (aH cC))
  aW))))))))))))))))
  (aB (aH cC)))⟩
noncomputable def Aa:=(vM v0 v1 v2 v3 v4 v5 v6 v7 v8).1
end
end K
namespace K
open PySem L2 L3 N10
theorem bW:(∀(α:Type) (a:α) (l:List α),(a::l)[0]?=some a)∧(∀(α:Type) (a:α) (l:List α) (i:Nat),(a::l)[i+1]?=l[i]?)∧(∀(α:Type) (x:Option α),(some x).join=x)∧(∀(α:Type) (a:α),(opt (some a):DM α)=pure a)∧∀(α β:Type) (a:α) (f:α->DM β),((pure a:DM α)>>=f)=f a:=⟨fun _ _ _=>rfl,fun _ _ _ _=>rfl,fun _ _=>rfl,fun _ _=>cU _,fun _ _ _ _=>au _ _⟩
theorem dN:(∀(α:Type) (a b:α) (l:List α) (i:Nat),(a::l).set (i+1) b=a::l.set i b)∧∀(α:Type) (a b:α) (l:List α),(a::l).set 0 b=b::l:=⟨fun _ _ _ _ _=>rfl,fun _ _ _ _=>rfl⟩
noncomputable def mO:=aP 1 1 gh
noncomputable def kO:=aP 2 2 (cP mO)
theorem Dk(n:Nat):mO [nD n]=pure (.bl true):=by
 have a:(rd (eE [nD n,.ty "int"]):DM D)=pure (.bl true):=bY (t := "int") (fun _=>rfl) (by decide)
 have b:(rd (eE [nD n,.ty "bool"]):DM D)=pure (.bl false):=bY (t := "int") (fun _=>rfl) (by decide)
 simp[mO,gh,a,b]
theorem Cr {l:List Nat} (hl:l.length≤1000):kO [nT l,.int (l.length:Int)]=pure (.bl true):=by
 have a:(rd (eE [nT l,.ty "tuple"]):DM D)=pure (.bl true):=bY (t := "tuple") (fun _=>rfl) (by decide)
 have ln:(rd (jK [nT l]):DM D)=pure (.int (l.length:Int)):=by simp[nT]
 simp[kO,cP,a,ln,aZ,cJ]
 show (cN (bA _ _ _ (l.map nD) _ _)>>=_)=_
 rw[Fw (fun _=>true) (fun _=>.bl true) (by simpa using Nat.le_trans hl (by decide)) (fun _ _=>rfl) (fun d hd _=>?_) (k':=fun l=>rd (iM [.lst l])) (fun _=>rfl)]
 ·have:((l.map nD).filter (fun _=>true)).map (fun _=>D.bl true)=(l.map fun _=>true).map D.bl:=by
   rw[List.filter_eq_self.mpr (fun _ _=>rfl),List.map_map,List.map_map];rfl
  have q:(l.map fun _=>true).all id=true:=by rw[List.all_eq_true];intro x hx;obtain⟨_,_,rfl⟩:=List.mem_map.mp hx;rfl
  rw[this,pJ,q]
 ·obtain⟨n,_,rfl⟩:=List.mem_map.mp hd
  have:=Dk n
  unfold nD at this ⊢
  simp[this]
theorem uU:∀ {l:List Nat}{n:Nat},n∈l->n≤l.sum
 |a::l,n,h=>by
   rw[List.sum_cons]
   rcases List.mem_cons.mp h with rfl | h
   ·omega
   ·have:=uU h;omega
noncomputable def gH:=aP 2 3 mV
noncomputable def ug:=aP 1 4 jC
noncomputable def uf:=aP 2 2 eV
theorem cj{p:Nat}{M:Mo}{far:Int}(h:cG p M)(h0:0<far)(h1:far<2^64):Rn (gH [.ref p,.int far]) M fun d M'=>∃t:Nat,(t:Int)<far∧d=nD t∧cG p M'∧Sb p M M':=by
 obtain⟨v,e⟩:=h
 have hp:=(List.getElem?_eq_some_iff.mp e).1
 have ix:gP (.ref p) (.int 0) M=some (nD v):=xx (i:=0) e rfl
 have m1:(rd (jM (nD v) (.int far)):DM D)=pure (.int ((v:Int)%far)):=pK h0
 have m2:(rd (o6 (nD v) (.int far)):DM D)=pure (.int ((v:Int) / far)):=xY (uo h0 (Nat.lt_of_lt_of_le (by omega:far.natAbs<2^64) (by decide +kernel)))
 have st:vX (.ref p) (.int 0) (.int ((v:Int) / far)) M=some (.ok (),M.set p (.lst ([nD v].set 0 (.int ((v:Int) / far))))):=mJ (i:=0) e (by simp)
 simp[gH,mV]
 refine Rn.bindRd _ ix ?_
 rw[m1,au]
 refine Rn.bindRd _ ix ?_
 rw[m2,au]
 refine Rn.run st ?_
 have a1:=Int.emod_nonneg (v:Int) (Int.ne_of_gt h0)
 have a2:=Int.emod_lt_of_pos (v:Int) h0
 have a3:=Int.ediv_nonneg (a:=(v:Int)) (b:=far) (by omega) (by omega)
 refine Rn.pure ⟨((v:Int)%far).toNat,by omega,by unfold nD;rw[Int.toNat_of_nonneg a1],⟨((v:Int) / far).toNat,?_⟩,Sb.set⟩
 rw[List.getElem?_set_self hp]
 unfold nD
 simp
 omega
theorem Cw (cs:List Int) (k:Nat):∃ c:Int,uf [.scr cs,nD k]=pure (.int c):=by
 by_cases h:k<cs.length
 ·have e:decide ((k:Int)<(cs.length:Int))=true:=decide_eq_true (by omega)
  have ix:(rd (gP (.scr cs) (.int (k:Int))):DM D)=pure (.int cs[k]):=aX fun M=>by
   show (atI cs (k:Int)).map _=_
   rw[oM (List.getElem?_eq_getElem h)];rfl
  refine⟨cs[k],?_⟩
  simp[uf,eV,nD,e,ix,h]
 ·have e:decide ((k:Int)<(cs.length:Int))=false:=decide_eq_false (by omega)
  refine⟨0,?_⟩
  simp[uf,eV,nD,e,h]
theorem uG {c:D}{f:aa->DM Fl} (h:∀ (n j:Nat) (z:Option D),j<64->∃ n' m':Nat,f [some c,some (nD n),some (nD j),z]=pure (.nx [some c,some (nD n'),some (nD j),some (nD m')])):∀ (l:List Nat),(∀ j∈l,j<64)->∀ (n:Nat) y z,∃ (n':Nat) (y' z':Option D),forL (gN 2) f (l.map nD) [some c,some (nD n),y,z]=pure (.nx [some c,some (nD n'),y',z'])
 |[],_,n,y,z=>⟨n,y,z,rfl⟩
 |j::l,hl,n,y,z=>by
   obtain⟨n1,m1,e1⟩:=h n j z (hl j (by simp))
   obtain⟨n',y',z',e2⟩:=uG h l (fun k hk=>hl k (by simp[hk])) n1 (some (nD j)) (some (nD m1))
   refine⟨n',y',z',?_⟩
   simp[forL,e1,e2]
theorem zQ{c:D}{f:aa->DM Fl}{k:Fl->DM D}{l:List Nat}(hl:∀j∈l,j<64)(n:Nat)(y z:Option D)(h:∀(n j:Nat) (z:Option D),j<64->∃n' m':Nat,f [some c,some (nD n),some (nD j),z]=pure (.nx [some c,some (nD n'),some (nD j),some (nD m')]))(hk:∀(n':Nat) y' z',∃v:Nat,k (.nx [some c,some (nD n'),y',z'])=cH [nD v]):∃v:Nat,(forL (gN 2) f (l.map nD) [some c,some (nD n),y,z]>>=k)=cH [nD v]:=by
 obtain⟨n',y',z',e⟩:=uG h l hl n y z
 obtain⟨v,q⟩:=hk n' y' z'
 exact⟨v,by rw[e,au,q]⟩
theorem Ed(c:Int):∃v:Nat,ug [.int c]=cH [nD v]:=by
 have pw:(rd (qi (.int 10) (.int 18)):DM D)=pure (.int 1000000000000000000):=by rw[rA (by decide)];rfl
 by_cases h:(1000000000000000000:Int)≤c
 ·refine⟨(c-1000000000000000000).toNat,?_⟩
  have e:(D.int (c-1000000000000000000))=nD (c-1000000000000000000).toNat:=by unfold nD;congr 1;omega
  simp[ug,jC,pw,h,e]
 ·have rg:lN [.int 64]=some (.fix ((List.range 64).map nD)):=tL (n:=64) (by decide)
  simp[ug,jC,pw,h,rg,sE]
  refine zQ (l:=List.range 64) (by simp) 0 none none (fun n j z hj=>?_) (fun n' y' z'=>⟨n',by simp⟩)
  have p1:(rd (jM (.int c) (.int 2147483629)):DM D)=pure (.int (c%2147483629)):=pK (by decide)
  have p2:(rd (fX (.int 7919) (nD j)):DM D)=pure (.int (7919*(j:Int))):=mF (qd (by decide))
  have b1:=Int.emod_nonneg c (b:=2147483629) (by decide)
  have b2:=Int.emod_lt_of_pos c (b:=2147483629) (by decide)
  have p3:(rd (fX (.int (c%2147483629+7919*(j:Int)+1)) (.int 48271)):DM D)=pure (.int ((c%2147483629+7919*(j:Int)+1)*48271)):=mF (qe (by decide))
  have p4:∀i:Int,(rd (jM (.int i) (.int 2147483647)):DM D)=pure (.int (i%2147483647)):=fun i=>pK (by decide)
  simp[p1,p2,p3,p4]
  generalize ((c%2147483629+7919*(j:Int)+1)*48271)=X
  have c1:=Int.emod_nonneg X (b:=2147483647) (by decide)
  have c2:=Int.emod_lt_of_pos X (b:=2147483647) (by decide)
  generalize X%2147483647=Y at c1 c2
  have p5:(rd (fX (.int Y) (.int Y)):DM D)=pure (.int (Y*Y)):=mF (qe (by omega))
  have p6:(rd (fX (.int 69621) (nD j)):DM D)=pure (.int (69621*(j:Int))):=mF (qd (by decide))
  have p7:∀i:Int,(rd (jM (.int i) (.int 2147483587)):DM D)=pure (.int (i%2147483587)):=fun i=>pK (by decide)
  have p8:(rd (fX (nD n) (.int 2147483587)):DM D)=pure (.int ((n:Int)*2147483587)):=mF (qe (by decide))
  simp[p5,p6,p7,p8]
  generalize (Y*Y+69621*(j:Int)+7)=Z
  have d1:=Int.emod_nonneg Z (b:=2147483587) (by decide)
  generalize Z%2147483587=W at d1
  refine⟨n*2147483587+W.toNat,W.toNat,?_⟩
  have e1:D.int ((n:Int)*2147483587+W)=nD (n*2147483587+W.toNat):=by unfold nD;congr 1;omega
  have e2:D.int W=nD W.toNat:=by unfold nD;congr 1;omega
  rw[e1,e2]
theorem aM{f g:aa->DM Fl}{δ:aa}{M:Mo}{Q:Fl->Mo->Prop}(h:∀K:Fl->DM Fl,(∀δ',K (.nx δ')=g δ')->Rn (f δ>>=K) M Q):Rn (ou f g δ) M Q:=by
 have:=h (fun r=>match r with | .nx δ'=>g δ' | r=>Pure.pure r) (fun _=>rfl)
 exact this
theorem BP{n t:Nat}{M:Mo}{l:List D}(h:M[n]?=some (.lst l))(ht:t<l.length)(hl:l.length≤1000000):zO (.ref n) [nD t] M=some (.ok l[t],M.set n (.lst (l.eraseIdx t))):=by
 unfold nD
 delta zO
 dsimp only
 rw[h]
 dsimp only
 rw[xu ht]
 dsimp only
 rw[List.getElem?_eq_getElem ht]
 dsimp only
 rw[if_pos (decide_eq_true ⟨by omega,by omega⟩)]
theorem o5:∀ (L:List D) (t:Nat) (ht:t<L.length),(L[t]::L.eraseIdx t).Perm L
 |a::L,0,_=>.refl _
 |a::L,t+1,ht=>by
   have ht':t<L.length:=by simpa using ht
   have ih:=o5 L t ht'
   show (L[t]::a::L.eraseIdx t).Perm (a::L)
   exact (List.Perm.swap a L[t] _).trans (ih.cons a)
noncomputable def wA:=aP 2 3 (kW gH)
noncomputable def G7(p q:Nat)(M0:Mo)(ds:List D)(rest:aa)(i:Nat)(δ:aa)(l:List D)(M:Mo):Prop:=(∃z,δ=z::rest)∧cG p M∧(Sb p M0 M)∧∃L,M[q]?=some (.lst L)∧(l++L).Perm ds∧l.length=i
theorem Dt {p:Nat}{M:Mo}{ds:List D} (h:cG p M) (hd:ds.length≤1000):Rn (wA [.ref p,.lst ds]) M fun d M'=>∃ l,d=.lst l∧l.Perm ds∧cG p M'∧Sb p M M':=by
 have ls:∀M,gj [.lst ds] M=some ds:=fun M=>rfl
 have al:(rd (rO (.lst ds)):DM Itn)=pure (.fix ds):=rfl
 unfold wA kW gU;dsimp only
 refine Rn.call rfl ?_
 refine aM fun K hK=>?_
 simp
 refine Rn.bindRd _ (ls M) ?_
 refine Rn.cH (by omega) ?_
 rw[hK];clear hK K
 simp[al,aZ,cJ]
 have hp:=h.lt
 refine Rn.bind (wC (qP (G7 p M.length M ds [some (.ref M.length),some (.ref p)]) ds 0 _ _ _ ⟨⟨none,rfl⟩,h.sb (q:=M.length) Sb.push (by omega),Sb.push,ds,by simp,by simp,rfl⟩ (fun j d δ l M1 hj hI=>?_))) fun pr M2 hI=>?_
 ·obtain⟨⟨z,rfl⟩,hp1,sb1,L,hL,pm,hl⟩:=hI
  have hj':=(List.getElem?_eq_some_iff.mp hj).1
  have ln:=pm.length_eq
  rw[List.length_append] at ln
  have lt:l.length<sizeLine:=by show _<2^24;omega
  simp[bR]
  refine Rn.bindRd L (by simp only[aQ,hL]) ?_
  refine Rn.bindRd (.int (L.length:Int)) (by show (aQ (.ref M.length) M1).map _=_;simp only[aQ,hL];rfl) ?_
  refine Rn.bind (cj (far:=(L.length:Int)) hp1 (by omega) (by omega)) fun d2 M3 ⟨t,g,e,hp3,s3⟩=>?_
  subst e
  have ht:t<L.length:=by omega
  have hL3:=s3.at (q:=M.length) (by omega) hL
  refine Rn.run (BP hL3 ht (by omega)) ?_
  simp only[lt,if_true]
  refine Rn.pure ⟨⟨_,rfl⟩,hp3.sb (q:=M.length) Sb.set (by omega),Sb.new (p:=p) (.inr (sb1.trans s3).le) (Nat.le_refl _) Sb.set (sb1.trans s3),L.eraseIdx t,List.getElem?_set_self (List.getElem?_eq_some_iff.mp hL3).1,?_,by simp[hl]⟩
  refine List.Perm.trans ?_ pm
  rw[List.append_assoc]
  exact List.Perm.append_left _ (o5 L t ht)
 ·obtain⟨_,hp2,sb2,L,hL,pm,hl⟩:=hI
  have ln:=pm.length_eq
  rw[List.length_append] at ln
  have L0:L=[]:=by
   rw[←List.length_eq_zero_iff];omega
  subst L0
  exact Rn.pure ⟨_,rfl,_,rfl,by simpa using pm,hp2,sb2⟩
structure WK(R:List (List Nat))(W:Nat):Prop where
 n1:1≤R.length
 n25:R.length≤25
 row:∀r∈R,r.length=R.length
 sum:∀r∈R,r.sum=W
 w1:1≤W
theorem WK.head{R:List (List Nat)}{W:Nat}(h:WK R W):gr R 0∈R:=gr_mem (by have:=h.n1;omega)
noncomputable def mL:=aP 2 2 (d9 kO)
noncomputable def gG:=aP 1 2 (bw mL)
theorem Aw{l:List Nat}{n:Nat}(h:l.length=n)(hl:n≤1000):kO [nT l,nD n]=pure (.bl true):=by
 subst h
 exact Cr hl
theorem nq(n:Nat):(rd (iM [.lst (List.replicate n (.bl true))]):DM D)=pure (.bl true):=by
 have:=pJ (List.replicate n true)
 rw[List.map_replicate] at this
 rw[this];simp
theorem lD{α:Type}(l:List α)(d:D):(l.map fun _=>d)=List.replicate l.length d:=List.map_const' ..
theorem Cq{R:List (List Nat)}{W:Nat}(h:WK R W):mL [nM R,nD R.length]=pure (.bl true):=by
 have:=h.n25
 simp[mL,d9,yr,lJ,lK,xX,aZ,cJ]
 rw[jE nT (fun _=>.bl true) (by omega) (fun r hr=>by simp[Aw (h.row r hr) (by omega)])]
 rw[au,lD,nq]
theorem wN{R:List (List Nat)}{W:Nat}(h:WK R W):gG [nM R]=pure (.bl true):=by
 have h1:=h.n1
 have h2:=h.n25
 have e1:(rd (ph (.int 1) (nD R.length)):DM D)=pure (.bl true):=by rw[show D.int 1=nD 1 from rfl,jw,decide_eq_true h1]
 have e2:(rd (ph (nD R.length) (.int 25)):DM D)=pure (.bl true):=by rw[show D.int 25=nD 25 from rfl,jw,decide_eq_true h2]
 have e3:(rd (o7 (nD W) (.int 1)):DM D)=pure (.bl true):=by rw[show D.int 1=nD 1 from rfl,xZ,decide_eq_true h.w1]
 have e4:∀r∈R,(rd (b8 (nD r.sum) (nD W)):DM D)=pure (.bl true):=fun r hr=>by rw[cT,h.sum r hr];simp
 simp[gG,bw,yr,lJ,e1,e2,Cq h,ju (R:=R) (by omega),h.sum _ h.head]
 simp[e3,xX,aZ,cJ]
 rw[jE nT (fun _=>.bl true) (by omega) (fun r hr=>by simp[e4 r hr])]
 rw[au,lD,nq]
noncomputable def aY(R:List (List Nat))(W:Nat):D:=.obj "Walk" ["rows", "whole"] [nM R,nD W]
noncomputable def Fin:=aP 2 2 (d8 gG)
theorem uM{M:Mo}{ns:List Str}{vs:List D}{f:Str}{d:D}(hl:ns.length=vs.length)(hz:ns.length<1000):rE "Walk" f (.ref M.length) d (M++[.ins "Walk" ns vs])=some (.ok (),M++[.ins "Walk" (putN f ns) (gQ f d ns vs)]):=by
 unfold rE
 simp[hl]
 omega
theorem De{R:List (List Nat)}{W:Nat}(h:WK R W)(M:Mo):Fin (.ref M.length::[nM R]) (M++[.ins "Walk" [] []])=some (.ok .non,M++[.ins "Walk" ["rows", "whole"] [nM R,nD W]]):=by
 have h1:=h.n1
 have go:Rn (Fin (.ref M.length::[nM R])) (M++[.ins "Walk" [] []]) fun d M'=>d=.non∧M'=M++[.ins "Walk" ["rows", "whole"] [nM R,nD W]]:=by
  simp[Fin,d8,wN h,ju (R:=R) (by omega)]
  refine Rn.run (uM rfl (by decide)) ?_
  rw[h.sum _ h.head]
  refine Rn.run (uM rfl (by decide)) ?_
  exact Rn.pure ⟨rfl,rfl⟩
 obtain⟨d,M',e,rfl,rfl⟩:=go
 exact e
theorem jG(R:List (List Nat))(W:Nat):(rd (nO "Walk" "rows" (aY R W)):DM D)=pure (nM R):=aX fun M=>by simp[nO,aY]
theorem xg(R:List (List Nat))(W:Nat):(rd (nO "Walk" "whole" (aY R W)):DM D)=pure (nD W):=aX fun M=>by
 have:((Str.ofString "whole")==(Str.ofString "rows"))=false:=by decide
 simp[nO,aY,List.lookup,this]
theorem WK.le{R:List (List Nat)}{W:Nat}(h:WK R W){r:List Nat}(hr:r∈R){n:Nat}(hn:n∈r):n≤W:=by
 rw[←h.sum r hr]
 exact uU hn
theorem uN {l:List Nat}{i v:Nat} (h:i<l.length):(l.set i v).sum + ga l i=l.sum + v:=by
 induction l generalizing i with
 |nil=>simp at h
 | cons a l ih=>
   cases i with
   |zero=>simp[ga];omega
   |succ i=>
     have:=ih (i:=i) (by simpa using h)
     rw[List.set_cons_succ,List.sum_cons,List.sum_cons]
     have e:ga (a::l) (i+1)=ga l i:=rfl
     rw[e];omega
theorem Ez{l:List Nat}{i j v:Nat}(h:i≠j):ga (l.set i v) j=ga l j:=by
 unfold ga
 rw[List.getD_eq_getElem?_getD,List.getD_eq_getElem?_getD,List.getElem?_set_ne h]
theorem Eu(n i:Nat):ga (List.replicate n 0) i=0:=by
 by_cases h:i<n
 ·rw[FJ (by simpa using h)];simp
 ·exact CW (by simp;omega)
noncomputable def wB:=aP 4 9 (oO wA gH)
structure RowSt(M0:Mo)(p w W:Nat)(todo:List Nat)(left:Nat)(f:List Nat)(M:Mo):Prop where
 pot:cG p M
 sb:Sb p M0 M
 at_:M[M0.length]?=some (.lst (f.map nD))
 len:f.length=w
 sum:f.sum+left=W
 zero:∀i∈todo,ga f i=0
noncomputable def Ft(M0:Mo)(p w W:Nat)(som:D)(o:List Nat)(rest:List Nat)(i:Nat)(δ:aa)(M:Mo):Prop:=∃(left:Nat) (f:List Nat) (z1 z2:Option D),δ=[some (.ref p),some (nD w),some (nD W),some som,some (.ref M0.length),some (nD left),some (.lst (o.map nD)),z1,z2]∧RowSt M0 p w W (o.getD 0 0::rest.drop i) left f M
theorem Ex {p w W:Nat}{M:Mo}{some':List Nat} (hp:cG p M) (hw:w≤25) (hW:W<2 ^ 60) (h0:some'≠[]) (hn:some'.Nodup) (hlt:∀ i∈some',i<w) (sl:some'.length≤100) :
  Rn (wB [.ref p,nD w,nD W,.lst (some'.map nD)]) M fun d M'=>∃r:List Nat,d=nT r∧r.length=w∧r.sum=W∧cG p M'∧Sb p M M':=by
 have hpl:=hp.lt
 unfold wB oO
 refine Rn.call rfl ?_
 have m0:dH [.int 0]=pure (.lst [.int 0]):=cz (by simp)
 refine aM fun K hK=>?_
 simp[m0]
 refine zE (by omega) ?_
 have hp1:cG p (M++[.lst ((List.replicate w 0).map nD)]):=hp.sb (q:=M.length) Sb.push (by omega)
 refine Rn.bind (Dt hp1 (by simp;omega)) fun d M2 ⟨ml,ed,pm,hp2,s2⟩=>?_
 subst ed
 obtain ⟨o,ho,el⟩:∃ o:List Nat,o.Perm some'∧ml=o.map nD:=by
  let u:D->Nat:=fun d=>match d with | .int i=>i.toNat | _=>0
  have hu:∀n:Nat,u (nD n)=n:=fun n=>by simp[u,nD]
  refine⟨ml.map u,?_,?_⟩
  ·have:=pm.map u
   rw[List.map_map] at this
   have e:some'.map (u ∘ nD)=some':=by
    conv=>rhs;rw[←List.map_id some']
    exact List.map_congr_left fun n _=>hu n
   rwa [e] at this
  ·rw[List.map_map]
   conv=>lhs;rw[←List.map_id ml]
   refine List.map_congr_left fun d hd=>?_
   obtain⟨n,_,rfl⟩:=List.mem_map.mp (pm.mem_iff.mp hd)
   show nD n=nD (u (nD n))
   rw[hu]
 subst el
 rw[hK];clear hK K
 have ol:o.length=some'.length:=ho.length_eq
 have on:o.Nodup:=ho.nodup_iff.mpr hn
 have olt:∀i∈o,i<w:=fun i hi=>hlt i (ho.mem_iff.mp hi)
 obtain⟨a,rest,rfl⟩:∃a rest,o=a::rest:=by
  cases o with
  |nil=>exact absurd (List.length_eq_zero_iff.mp (by simpa using ol.symm)) h0
  |cons a rest=>exact⟨a,rest,rfl⟩
 have st0:RowSt M p w W (a::rest) W (List.replicate w 0) M2:=by
  refine⟨hp2,⟨Nat.le_trans (by simp) s2.le,fun q hq hl=>?_⟩,?_,by simp,by simp,fun i _=>Eu w i⟩
  ·rw[s2.keep q hq (by simp;omega),List.getElem?_append_left hl]
  ·refine s2.at (by omega) ?_
   rw[List.getElem?_concat_length]
 -- the others
 refine aM fun K hK=>?_
 have sl1:(rd (ir (some 1) none (.lst ((a::rest).map nD))):DM D)=pure (.lst (rest.map nD)):=aX fun M=>by
  simp only[ir,aQ,Option.map_some]
  unfold cutD
  rw[HT.sIx_none,show (some (1:Int))=some ((1:Nat):Int) from rfl,HT.sIx_nat]
  simp
  exact List.take_of_length_le (by simp)
 have as1:ul (.int 1)=pure (some 1):=rfl
 simp only[bW,aU,aF,as1,sl1,tH,sE]
 refine Rn.bind (gM (Ft M p w W (.lst (some'.map nD)) (a::rest) rest) _ 0 _ _ ⟨W,List.replicate w 0,none,none,rfl,by simpa using st0⟩ (fun j d δ M3 hj hI=>?_)) (fun r M3 hI=>?_)
 ·obtain ⟨left,f,z1,z2,rfl,st⟩:=hI
  rw[Nat.zero_add] at st ⊢
  obtain⟨y,hy,ed⟩:∃y,rest[j]?=some y∧d=nD y:=by
   rw[List.getElem?_map] at hj
   obtain⟨q,e1,e2⟩:=Option.map_eq_some_iff.mp hj
   exact⟨q,e1,e2.symm⟩
  subst ed
  have hjl:=(List.getElem?_eq_some_iff.mp hy).1
  have dj:rest.drop j=y::rest.drop (j+1):=by
   rw[List.drop_eq_getElem_cons hjl,(List.getElem?_eq_some_iff.mp hy).2]
  have yw:y<w:=olt y (by simp[List.mem_of_getElem? hy])
  have yz:ga f y=0:=st.zero y (by rw[dj];simp)
  have leW:left≤W:=by have:=st.sum;omega
  rw[nZ,au]
  refine aM fun K hK=>?_
  simp only[dN,bW,aU,aF,jt]
  refine Rn.bind (cj (far:=((left+1:Nat):Int)) st.pot (by omega) (by omega)) fun d4 M4 ⟨t4,g4,e4,hp4,s4⟩=>?_
  subst e4
  have ml3:dH [.int 0,nD left,nD t4]=pure (.lst ([0,left,t4].map nD)):=cz (by simp)
  simp only[au,ml3]
  refine Rn.bind (cj (far:=3) hp4 (by decide) (by decide)) fun d5 M5 ⟨t5,g5,e5,hp5,s5⟩=>?_
  subst e5
  have h5:t5<[0,left,t4].length:=by simp;omega
  have ix:(rd (gP (.lst ([0,left,t4].map nD)) (nD t5)):DM D)=pure (nD ([0,left,t4][t5])):=rm (by rw[List.getElem?_map,List.getElem?_eq_getElem h5];rfl)
  have ple:[0,left,t4][t5]≤left:=by
   have:=List.getElem_mem h5
   generalize [0,left,t4][t5]=x at this
   simp at this
   omega
  rw[ix]
  generalize [0,left,t4][t5]=part at ple
  rw[au,hK];clear hK K
  have mk2:∀x y:D,gf [x,y]=pure (.tup [x,y]):=fun x y=>dD (by simp)
  simp only[dN,bW,aU,aF,Es ple,mk2,Hs,List.length_cons,List.length_nil,if_true,Gm,Gn,nZ]
  have at5:M5[M.length]?=some (.lst (f.map nD)):=s5.at (by omega) (s4.at (by omega) st.at_)
  have sr:=mJ (v:=nD part) at5 (i:=y) (by rw[List.length_map,st.len];exact yw)
  rw[←List.map_set] at sr
  refine Rn.run sr ?_
  refine Rn.pure ⟨_,rfl,left-part,f.set y part,_,_,rfl,?_⟩
  have ss:=uN (l:=f) (i:=y) (v:=part) (by rw[st.len];exact yw)
  refine⟨hp5.sb (q:=M.length) Sb.set (by omega),Sb.new (p:=p) (.inr (st.sb.trans (s4.trans s5)).le) (Nat.le_refl _) Sb.set (st.sb.trans (s4.trans s5)),List.getElem?_set_self (List.getElem?_eq_some_iff.mp at5).1,by rw[List.length_set];exact st.len,by have:=st.sum;omega,fun i hi=>?_⟩
  have iy:y≠i:=fun z=>by
   subst z
   have on':=List.nodup_cons.mp on
   rcases List.mem_cons.mp hi with e | hi
   ·have e:y=a:=by simpa using e
    exact on'.1 (e ▸ List.mem_of_getElem? hy)
   ·have dn:(rest.drop j).Nodup:=on'.2.sublist (List.drop_sublist j rest)
    rw[dj] at dn
    exact (List.nodup_cons.mp dn).1 hi
  rw[Ez iy]
  refine st.zero i ?_
  rcases List.mem_cons.mp hi with e | hi
  ·rw[e];simp
  ·rw[dj];simp[hi]
 ·obtain⟨δ',rfl,left,f,z1,z2,rfl,st⟩:=hI
  rw[hK];clear hK K
  have aw:a<w:=olt a (by simp)
  have az:ga f a=0:=st.zero a (by simp)
  have ix0:(rd (gP (.lst ((a::rest).map nD)) (.int 0)):DM D)=pure (nD a):=rm (i:=0) rfl
  refine aM fun K hK=>?_
  simp only[dN,bW,aU,aF,ix0]
  have sr:=mJ (v:=nD left) st.at_ (i:=a) (by rw[List.length_map,st.len];exact aw)
  rw[←List.map_set] at sr
  refine Rn.run sr ?_
  rw[hK];clear hK K
  have ss:=uN (l:=f) (i:=a) (v:=left) (by rw[st.len];exact aw)
  simp only[dN,bW,aU,aF]
  refine Rn.bindRd (nT (f.set a left)) (by
   show (aQ (.ref M.length) _).map _=_
   simp only[aQ,List.getElem?_set_self (List.getElem?_eq_some_iff.mp st.at_).1];rfl) ?_
  refine Rn.pure ⟨_,rfl,f.set a left,rfl,by rw[List.length_set];exact st.len,by have:=st.sum;omega,st.pot.sb (q:=M.length) Sb.set (by omega),Sb.new (p:=p) (.inr st.sb.le) (Nat.le_refl _) Sb.set st.sb⟩
noncomputable def rK:=aP 2 8 (mU gH wB)
theorem uR {ns:List Int}{x:Int}:x∈dZ ns ↔ x∈ns:=by
 unfold dZ
 rw[(dY _).1.mem_iff]
 have:∀ (l acc:List Int),x∈l.foldl PyProof.Rows.step_dedup acc ↔ x∈acc∨x∈l:=by
  intro l
  induction l with
  |nil=>intro acc;simp
  | cons a l ih=>
    intro acc
    rw[List.foldl_cons,ih,←LS.oA]
    by_cases h:a∈acc
    ·rw [if_pos h]
     constructor
     ·rintro (h1 | h1)
      ·exact .inl h1
      ·exact .inr (.tail _ h1)
     ·rintro (h1 | h1)
      ·exact .inl h1
      ·rcases List.mem_cons.mp h1 with rfl | h1
       ·exact .inl h
       ·exact .inr h1
    ·rw[if_neg h,List.mem_append,List.mem_singleton,List.mem_cons,or_assoc]
 rw[this];simp
theorem yF (ns:List Int):(dZ ns).Nodup:=by
 unfold dZ
 rw[(dY _).1.nodup_iff]
 have:∀ (l acc:List Int),acc.Nodup->(l.foldl PyProof.Rows.step_dedup acc).Nodup:=by
  intro l
  induction l with
  |nil=>intro acc h;exact h
  | cons a l ih=>
    intro acc h
    rw[List.foldl_cons,←LS.oA]
    by_cases q:a∈acc
    ·rw[if_pos q];exact ih acc h
    ·rw[if_neg q]
     refine ih _ (List.nodup_append.mpr ⟨h,by simp,fun x hx y hy e=>?_⟩)
     rw[List.mem_singleton.mp hy] at e
     exact q (e ▸ hx)
 exact this ns [] (by simp)
structure Som(w:Nat)(l:List Nat):Prop where
 ne:l≠[]
 nd:l.Nodup
 lt:∀i∈l,i<w
 len:l.length≤100
theorem gm{w:Nat}(hw:w≤25)(p:Nat->Bool){x:Nat}(hx:x<w)(h:p x=true):Som w ((List.range w).filter p):=by
 refine⟨fun z=>?_,List.nodup_range.filter p,fun i hi=>List.mem_range.mp (List.mem_filter.mp hi).1,?_⟩
 ·have:x∈(List.range w).filter p:=List.mem_filter.mpr ⟨List.mem_range.mpr hx,h⟩
  rw[z] at this
  cases this
 ·have:=List.length_filter_le p (List.range w)
  rw[List.length_range] at this
  omega
theorem EY (w x:Nat) (hx:x<w):∃ l:List Nat,dZ [(x:Int),(((x + 1) % w:Nat):Int)]=l.map (fun n:Nat=>(n:Int))∧Som w l:=by
 have nn:∀i∈dZ [(x:Int),(((x+1)%w:Nat):Int)],0≤i∧i<w:=fun i hi=>by
  have:=uR.mp hi
  have hm:=Nat.mod_lt (x+1) (show w > 0 by omega)
  simp only[List.mem_cons,List.not_mem_nil,or_false] at this
  omega
 have e:(dZ [(x:Int),(((x+1)%w:Nat):Int)])=((dZ [(x:Int),(((x+1)%w:Nat):Int)]).map Int.toNat).map (fun n:Nat=>(n:Int)):=by
  rw[List.map_map]
  conv=>lhs;rw[←List.map_id (dZ _)]
  exact List.map_congr_left fun i hi=>by
   have:=nn i hi
   show i=((i.toNat:Nat):Int)
   omega
 refine⟨(dZ [(x:Int),(((x+1)%w:Nat):Int)]).map Int.toNat,e,fun z=>?_,?_,fun i hi=>?_,?_⟩
 ·have:(x:Int)∈dZ [(x:Int),(((x+1)%w:Nat):Int)]:=uR.mpr (by simp)
  rw[List.map_eq_nil_iff] at z
  rw[z] at this;cases this
 ·have:=yF [(x:Int),(((x+1)%w:Nat):Int)]
  rw[e] at this
  exact List.pairwise_map.mp this |>.imp fun h z=>h (by rw[z])
 ·obtain⟨j,hj,rfl⟩:=List.mem_map.mp hi
  have:=nn j hj
  omega
 ·rw[List.length_map]
  have:=uQ [(x:Int),(((x+1)%w:Nat):Int)]
  rw[List.length_cons,List.length_singleton] at this
  omega
structure RowsSt(M0:Mo)(p w W:Nat)(R:List (List Nat))(i:Nat)(M:Mo):Prop where
 pot:cG p M
 sb:Sb p M0 M
 at_:M[M0.length]?=some (.lst (R.map nT))
 len:R.length=i
 row:∀r∈R,r.length=w∧r.sum=W
noncomputable def oJ(M0 M1:Mo)(p tp w W kd:Nat)(i:Nat)(δ:aa)(M:Mo):Prop:=∃(R:List (List Nat)) (z1 z2:Option D),δ=[some (.ref p),some (nD tp),some (nD w),some (nD W),some (nD kd),some (.ref M1.length),z1,z2]∧RowsSt M1 p w W R i M
theorem uL {p tp:Nat}{M:Mo} (hp:cG p M) (h1:1≤tp) (h2:tp≤6):Rn (rK [.ref p,nD tp]) M fun d M'=>∃ (R:List (List Nat)) (W:Nat),d=nM R∧WK R W∧R.length≤tp∧W≤12∧cG p M'∧Sb p M M':=by
 unfold rK mU iT;dsimp only
 refine Rn.call rfl ?_
 have mk2:∀x y:D,gf [x,y]=pure (.tup [x,y]):=fun x y=>dD (by simp)
 refine aM fun K hK=>?_
 simp
 refine Rn.bind (cj (far:=(tp:Int)) hp (by omega) (by omega)) fun d2 M2 ⟨t2,g2,e2,hp2,s2⟩=>?_
 subst e2
 have ml5:dH [.int 1,.int 2,.int 3,.int 6,.int 12]=pure (.lst ([1,2,3,6,12].map nD)):=cz (by simp)
 rw[Ei,au,ml5,au]
 refine Rn.bind (cj (far:=5) hp2 (by decide) (by decide)) fun d3 M3 ⟨t3,g3,e3,hp3,s3⟩=>?_
 subst e3
 have h3:t3<[1,2,3,6,12].length:=by simp;omega
 have ix:(rd (gP (.lst ([1,2,3,6,12].map nD)) (nD t3)):DM D)=pure (nD ([1,2,3,6,12][t3])):=rm (by rw[List.getElem?_map,List.getElem?_eq_getElem h3];rfl)
 have hW:1≤[1,2,3,6,12][t3]∧[1,2,3,6,12][t3]≤12:=by
  have:=List.getElem_mem h3
  generalize [1,2,3,6,12][t3]=x at this
  simp at this
  omega
 rw[ix]
 generalize [1,2,3,6,12][t3]=W at hW
 obtain⟨hW1,hW2⟩:=hW
 simp[mk2]
 rw[hK];clear hK K
 have w1:1≤t2+1:=by omega
 have wt:t2+1≤tp:=by omega
 revert w1 wt
 generalize t2+1=w
 intro w1 wt
 -- the kind
 refine aM fun K hK=>?_
 simp
 refine Rn.bind (cj (far:=6) hp3 (by decide) (by decide)) fun d4 M4 ⟨kd,g4,e4,hp4,s4⟩=>?_
 subst e4
 refine Rn.cH (by simp) ?_
 rw[hK];clear hK K
 have sb4:Sb p M M4:=s2.trans (s3.trans s4)
 have st0:RowsSt M4 p w W [] 0 (M4++[.lst []]):=⟨hp4.sb (q:=M4.length) Sb.push (by have:=hp4.lt;omega),Sb.push,by simp,rfl,fun r hr=>by cases hr⟩
 have hp4l:=hp4.lt
 -- the rows
 refine aM fun K hK=>?_
 simp only[bW,aU,aF,yu (n:=w) (by omega),sE]
 refine Rn.bind (gM (oJ M M4 p tp w W kd) _ 0 _ _ ⟨[],none,none,rfl,st0⟩ (fun x d δ M5 hx hI=>?_)) (fun r M5 hI=>?_)
 ·obtain ⟨R,z1,z2,rfl,st⟩:=hI
  rw[Nat.zero_add] at st ⊢
  have hx':x<w:=by
   have:=(List.getElem?_eq_some_iff.mp hx).1
   simpa using this
  have ed:d=nD x:=by
   rw[List.getElem?_map,List.getElem?_range hx'] at hx
   exact (Option.some.inj hx).symm
  subst ed
  rw[nZ,au]
  have lr:(rd (fun M=>(vG [nD w] M).map D.lst):DM D)=pure (.lst ((List.range w).map nD)):=aX fun M=>by
   show (if -(2^62)≤(w:Int)∧(w:Int)≤2^20 then some ((List.range (w:Int).toNat).map nD) else none).map D.lst=_
   rw[if_pos ⟨by omega,by omega⟩];simp
  refine aM fun K hK=>?_
  simp only[dN,bW,aU,aF,lr]
  rw[hK];clear hK K
  have som0:Som w (List.range w):=by
   have:=gm (by omega) (fun _=>true) hx' rfl
   rwa [List.filter_eq_self.mpr (fun _ _=>rfl)] at this
  -- halves
  have half:(rd (o6 (nD w) (.int 2)):DM D)=pure (nD (w / 2)):=Ej (b:=2) (by decide) (by decide +kernel)
  refine aM fun K hK=>?_
  suffices H:∀l1:List Nat,Som w l1->(kd≠3->l1=List.range w)->Rn (K (.nx [some (.ref p),some (nD tp),some (nD w),some (nD W),some (nD kd),some (.ref M4.length),some (nD x),some (.lst (l1.map nD))])) M5 (fun r M'=>∃δ',r=Fl.nx δ'∧oJ M M4 p tp w W kd (x+1) δ' M') by
   by_cases h3:kd=3
   ·have e3:(rd (b8 (nD kd) (.int 3)):DM D)=pure (.bl true):=by rw[show D.int 3=nD 3 from rfl,cT,h3];rfl
    simp only[dN,bW,aU,aF,e3,cL,if_true,tH,ql,aZ,cJ,List.map_cons,List.map_nil,List.length_cons,List.length_nil,Nat.zero_add,Option.getD_some,List.replicate_succ,List.replicate_zero,List.cons_append,List.nil_append]
    rw[bf nD (fun y=>decide (y<w / 2)==decide (x<w / 2)) nD (by simp;omega) (fun y hy=>by simp[half,Em,BV]) (fun y hy _=>by simp)]
    simp only[dN,au,lM]
    exact H _ (gm (by omega) _ hx' (by simp)) fun z=>absurd h3 z
   ·have e3:(rd (b8 (nD kd) (.int 3)):DM D)=pure (.bl false):=by rw[show D.int 3=nD 3 from rfl,cT,decide_eq_false h3]
    simp only[bW,aU,aF,e3,cL,Bool.false_eq_true,if_false]
    exact H _ som0 fun _=>rfl
  intro l1 som1 k1
  rw[hK];clear hK K
  refine aM fun K hK=>?_
  suffices H:∀ l2:List Nat,Som w l2->Rn (K (.nx [some (.ref p),some (nD tp),some (nD w),some (nD W),some (nD kd),some (.ref M4.length),some (nD x),some (.lst (l2.map nD))])) M5 (fun r M'=>∃ δ',r=Fl.nx δ'∧oJ M M4 p tp w W kd (x + 1) δ' M') by
   by_cases h4:kd=4
   ·have e4:(rd (b8 (nD kd) (.int 4)):DM D)=pure (.bl true):=by rw[show D.int 4=nD 4 from rfl,cT,h4];rfl
    have l1e:=k1 (by omega)
    subst l1e
    by_cases hw:1<w
    ·have eg:(rd (qN (nD w) (.int 1)):DM D)=pure (.bl true):=by rw[show D.int 1=nD 1 from rfl,tK,decide_eq_true hw]
     have md:∀y:Nat,(rd (jM (nD y) (.int 2)):DM D)=pure (nD (y%2)):=fun y=>uJ (b:=2) (by decide)
     simp only[dN,bW,aU,aF,e4,eg,cL,if_true,tH,ql,aZ,cJ,List.map_cons,List.map_nil,List.length_cons,List.length_nil,Nat.zero_add,Option.getD_some,List.replicate_succ,List.replicate_zero,List.cons_append,List.nil_append]
     rw[bf nD (fun y=>!decide (y%2=x%2)) nD (by simp;omega) (fun y hy=>by simp[md,lK]) (fun y hy _=>by simp)]
     simp only[dN,au,lM]
     refine H _ ?_
     by_cases q:x%2=0
     ·exact gm (by omega) _ (x:=1) hw (by simp;omega)
     ·exact gm (by omega) _ (x:=0) (by omega) (by simp;omega)
    ·have eg:(rd (qN (nD w) (.int 1)):DM D)=pure (.bl false):=by rw[show D.int 1=nD 1 from rfl,tK,decide_eq_false hw]
     simp only[bW,aU,aF,e4,eg,cL,if_true,Bool.false_eq_true,if_false]
     exact H _ som0
   ·have e4:(rd (b8 (nD kd) (.int 4)):DM D)=pure (.bl false):=by rw[show D.int 4=nD 4 from rfl,cT,decide_eq_false h4]
    simp only[bW,aU,aF,e4,cL,Bool.false_eq_true,if_false]
    exact H _ som1
  intro l2 som2
  rw[hK];clear hK K
  refine aM fun K hK=>?_
  suffices H:∀ l3:List Nat,Som w l3->Rn (K (.nx [some (.ref p),some (nD tp),some (nD w),some (nD W),some (nD kd),some (.ref M4.length),some (nD x),some (.lst (l3.map nD))])) M5 (fun r M'=>∃ δ',r=Fl.nx δ'∧oJ M M4 p tp w W kd (x + 1) δ' M') by
   by_cases h5:kd=5
   ·have e5:(rd (b8 (nD kd) (.int 5)):DM D)=pure (.bl true):=by rw[show D.int 5=nD 5 from rfl,cT,h5];rfl
    obtain⟨l3,el,som3⟩:=EY w x hx'
    have ml:dH [nD x,nD ((x+1)%w)]=pure (.lst [nD x,nD ((x+1)%w)]):=cz (by simp)
    have sq:(rd (fun M=>(wu [.lst [nD x,nD ((x+1)%w)]] M).map D.lst):DM D)=pure (.lst (l3.map nD)):=aX fun M=>by
     have e1:intsOf [nD x,nD ((x+1)%w)]=some [(x:Int),(((x+1)%w:Nat):Int)]:=rfl
     simp only[wu,aQ,Option.bind_some,e1]
     rw[if_pos (by simp),el,List.map_map]
     rfl
    simp only[dN,bW,aU,aF,e5,cL,if_true,jt,uJ (a:=x+1) (b:=w) (by omega),ml,sq]
    exact H l3 som3
   ·have e5:(rd (b8 (nD kd) (.int 5)):DM D)=pure (.bl false):=by rw[show D.int 5=nD 5 from rfl,cT,decide_eq_false h5]
    simp only[bW,aU,aF,e5,cL,Bool.false_eq_true,if_false]
    exact H _ som2
  intro l3 som3
  rw[hK];clear hK K
  simp only[bW,aU,aF]
  refine Rn.bindRd (R.map nT) (by simp only[aQ,st.at_]) ?_
  refine Rn.bind (Ex st.pot (by omega) (by omega) som3.ne som3.nd som3.lt som3.len) fun d6 M6 ⟨r,e6,rl,rs,hp6,s6⟩=>?_
  subst e6
  have at6:M6[M4.length]?=some (.lst (R.map nT)):=s6.at (by omega) st.at_
  have ar:=uh (v:=nT r) at6 (by have:=st.len;simp;omega)
  refine Rn.run ar ?_
  refine Rn.pure ⟨_,rfl,R++[r],_,_,rfl,hp6.sb (q:=M4.length) Sb.set (by omega),Sb.new (p:=p) (.inr (st.sb.trans s6).le) (Nat.le_refl _) Sb.set (st.sb.trans s6),?_,by rw[List.length_append,st.len];rfl,fun q hq=>?_⟩
  ·rw[List.getElem?_set_self (List.getElem?_eq_some_iff.mp at6).1];simp
  ·rcases List.mem_append.mp hq with h | h
   ·exact st.row q h
   ·rw[List.mem_singleton.mp h];exact⟨rl,rs⟩
 ·obtain⟨δ',rfl,R,z1,z2,rfl,st⟩:=hI
  rw[hK];clear hK K
  rw[List.length_map,List.length_range,Nat.zero_add] at st
  simp only[bW,aU,aF]
  refine Rn.bindRd (nM R) (by
   show (aQ (.ref M4.length) M5).map _=_
   simp only[aQ,st.at_];rfl) ?_
  refine Rn.pure ?_
  refine⟨_,rfl,?_⟩
  exact⟨R,rfl,W,⟨by rw[st.len];exact w1,by rw[st.len];omega,fun r hr=>by rw[st.len];exact (st.row r hr).1,fun r hr=>(st.row r hr).2,hW1⟩,by rw[st.len];exact wt,hW2,st.pot,sb4.trans st.sb⟩
end K
set_option exponentiation.threshold 2000
namespace K
open PySem L2 L3 N10
theorem gA{f g:aa->DM Fl}{δ:aa}{M:Mo}{Q:Fl->Mo->Prop}(h:∀K:Fl->DM Fl,(∀δ',K (.nx δ')=g δ')->(∀d,K (.rt d)=Pure.pure (.rt d))->Rn (f δ>>=K) M Q):Rn (ou f g δ) M Q:=by
 have:=h (fun r=>match r with | .nx δ'=>g δ' | r=>Pure.pure r) (fun _=>rfl) (fun _=>rfl)
 exact this
mutual
noncomputable def wt:D->Nat
 |.int _=>1921
 |.str x=>(reprText x).length
 |.tup l=>aV l+3
 |.lst l=>aV l+3
 |.dic _ _=>8000
 |_=>5
noncomputable def aV:List D->Nat
 |[]=>0
 |d::l=>wt d+2+aV l
end
inductive Gd(B:Nat):Nat->D->Prop
 |non {n:Nat}:Gd B n .non
 |bl {n:Nat} (b:Bool):Gd B n (.bl b)
 |int {n:Nat}{i:Int}:i.natAbs≤B->Gd B n (.int i)
 |str {n:Nat}{x:Str}:Gd B n (.str x)
 |d0 {n:Nat}:Gd B n (.dic [] [])
 |d1 {n:Nat}:Gd B n (.dic [.inl 0] [.int 1])
 |tup {n:Nat}{l:List D}:(∀x∈l,Gd B n x)->Gd B (n+1) (.tup l)
 |lst {n:Nat}{l:List D}:(∀x∈l,Gd B n x)->Gd B (n+1) (.lst l)
theorem Gd.mono {B B':Nat} (hB:B≤B'):∀ {n n':Nat}{d:D},Gd B n d->n≤n'->Gd B' n' d
 |_,_,_,.non,_=>.non
 |_,_,_,.bl b,_=>.bl b
 |_,_,_,.int h,_=>.int (Nat.le_trans h hB)
 |_,_,_,.str,_=>.str
 |_,_,_,.d0,_=>.d0
 |_,_,_,.d1,_=>.d1
 |_,n',_,.tup h,hn=>by
   obtain⟨m,rfl⟩:∃m,n'=m+1:=⟨n' - 1,by omega⟩
   exact .tup fun x hx=>(h x hx).mono hB (by omega)
 |_,n',_,.lst h,hn=>by
   obtain⟨m,rfl⟩:∃m,n'=m+1:=⟨n' - 1,by omega⟩
   exact .lst fun x hx=>(h x hx).mono hB (by omega)
theorem tu {k:Nat}:∀ {l:List D},(∀ x∈l,∃ p,bD x=some p∧p.showable=true∧p.depth≤k∧bB p=wt x)->∃ ps,dC l=some ps∧PyData.showableAll ps=true∧PyData.depthAll ps≤k∧dq ps=aV l
 |[],_=>⟨[],by simp only[dC],by simp only[PyData.showableAll],by simp only[PyData.depthAll];omega,by simp only[dq,aV]⟩
 |d::l,h=>by
   obtain⟨p,a,b,c,e⟩:=h d (.head _)
   obtain⟨ps,a',b',c',e'⟩:=tu fun x hx=>h x (.tail _ hx)
   exact⟨p::ps,by simp only[dC,a,a'],by simp only[PyData.showableAll,b,b',Bool.and_self],by simp only[PyData.depthAll];omega,by simp only[dq,aV,e,e']⟩
theorem Gd.py {B:Nat} (hB:B<2 ^ 1000):∀ {n:Nat}{d:D},Gd B n d->∃ p,bD d=some p∧p.showable=true∧p.depth≤n + 3∧bB p=wt d
 |_,_,.non=>⟨_,rfl,rfl,by simp only[PyData.depth];omega,by simp only[bB,wt]⟩
 |_,_,.bl b=>⟨_,rfl,rfl,by simp only[PyData.depth];omega,by simp only[bB,wt]⟩
 |_,_,.int h=>⟨_,rfl,by simpa[PyData.showableAll] using lV (l:=[_]) (fun i hi=>by rw[List.mem_singleton.mp hi];exact Nat.lt_of_le_of_lt h hB),by simp only[PyData.depth];omega,by simp only[bB,wt]⟩
 |_,_,.str=>⟨_,rfl,by simp only[PyData.showable],by simp only[PyData.depth];omega,by simp only[bB,wt]⟩
 |_,_,.d0=>⟨_,rfl,by simp[PyData.showable,PyData.showableKv],by simp[PyData.depth,PyData.depthKv],by simp only[bB,wt]⟩
 |_,_,.d1=>⟨_,rfl,by simp only[PyData.showable,PyData.showableKv];decide +kernel,by simp[PyData.depth,PyData.depthKv],by simp only[bB,wt]⟩
 |_,_,.tup h=>by
   obtain⟨ps,a,b,c,e⟩:=tu fun x hx=>(h x hx).py hB
   exact⟨.tuple ps,by simp only[bD,a,Option.map_some],by simpa only[PyData.showable] using b,by simp only[PyData.depth];omega,by simp only[bB,wt,e]⟩
 |_,_,.lst h=>by
   obtain⟨ps,a,b,c,e⟩:=tu fun x hx=>(h x hx).py hB
   exact⟨.list ps,by simp only[bD,a,Option.map_some],by simpa only[PyData.showable] using b,by simp only[PyData.depth];omega,by simp only[bB,wt,e]⟩
mutual
theorem yJ:∀ {d:D}{p:PyData},toPy d=some p->bD d=some p
 |.non,_,h=>h
 |.bl _,_,h=>h
 |.int _,_,h=>h
 |.str _,_,h=>h
 |.tup l,_,h=>by
   simp only[toPy,Option.map_eq_some_iff] at h
   obtain⟨ps,a,rfl⟩:=h
   simp only[bD,qy a,Option.map_some]
 |.lst l,_,h=>by
   simp only[toPy,Option.map_eq_some_iff] at h
   obtain⟨ps,a,rfl⟩:=h
   simp only[bD,qy a,Option.map_some]
 |.dic _ _,_,h=>by simp[toPy] at h
 |.obj _ _ _,_,h=>by simp[toPy] at h
 |.scr _,_,h=>by simp[toPy] at h
 |.ref _,_,h=>by simp[toPy] at h
 |.cls _,_,h=>by simp[toPy] at h
 |.ty _,_,h=>by simp[toPy] at h
 |.exn _,_,h=>by simp[toPy] at h
theorem qy:∀ {l:List D}{ps:List PyData},dG l=some ps->dC l=some ps
 |[],_,h=>h
 | d::l,_,h=>by
   simp only[dG] at h
   split at h
   ·rename_i a b
    cases h
    simp only[dC,yJ a,qy b]
   ·cases h
end
theorem Gd.sh {B n:Nat}{d:D} (h:Gd B n d) (hB:B<2 ^ 1000) (hn:n≤50) (hw:wt d≤10000000):zV d:=by
 obtain⟨p,a,b,c,e⟩:=h.py hB
 refine⟨p.shown,aX fun M=>?_⟩
 have h0:lF d=some p:=by
  unfold lF
  split
  ·rename_i q hq
   rw[←a,yJ hq]
  ·exact a
 simp only[eG,h0,Option.bind_some,b,Bool.true_and]
 rw[if_pos]
 rw[Bool.and_eq_true,decide_eq_true_eq,decide_eq_true_eq]
 exact⟨by omega,by show _≤2^24;omega⟩
theorem d7:∀a b:List D,aV (a++b)=aV a+aV b
 |[],b=>by simp[aV]
 |x::a,b=>by simp only[List.cons_append,aV,d7 a b];omega
theorem Cg:∀a:List D,aV a.reverse=aV a
 |[]=>rfl
 |x::a=>by simp only[List.reverse_cons,d7,Cg a,aV];omega
theorem uX(a:List D)(i:Nat):aV (a.take i)+aV (a.drop i)=aV a:=by rw[←d7,List.take_append_drop]
theorem gF:∀a:List D,2*a.length≤aV a
 |[]=>by simp[aV]
 |x::a=>by have:=gF a;simp only[List.length_cons,aV];omega
theorem jy:∀{a:List D}{x:D},x∈a->wt x+2≤aV a
 |x::a,_,.head _=>by simp only[aV];omega
 |x::a,_,.tail _ h=>by have:=jy h;simp only[aV];omega
theorem qj{L:List D}{t:Nat}(h:t<L.length):∃x,x∈L∧(rd (gP (.lst L) (nD t)):DM D)=pure x:=⟨L[t],List.getElem_mem h,rm (List.getElem?_eq_getElem h)⟩
noncomputable def zY(B n c:Nat)(d:D)(p:Nat)(M:Mo)(r:D)(M':Mo):Prop:=(Gd (B+10^12) (n+2) r∧wt r≤wt d+c+10000)∧cG p M'∧Sb p M M'
theorem zY.mk{B n m p:Nat}{d r:D}{M M':Mo}(a:Gd (B+10^12) (n+2) r)(b:wt r≤wt d+m+10000)(c:cG p M')(e:Sb p M M'):zY B n m d p M r M':=⟨⟨a,b⟩,c,e⟩
noncomputable def lB:D->Bool
 |.tup _=>true
 |_=>false
noncomputable def isNm:D->Bool
 |.int _=>true
 |.bl _=>true
 |_=>false
theorem Gd.isT{B n:Nat}{d:D}(h:Gd B n d):(rd (eE [d,.ty "tuple"]):DM D)=pure (.bl (lB d)):=by
 cases h<;>first | exact bY (t := "NoneType") (fun _=>rfl) (by decide) | exact bY (t := "bool") (fun _=>rfl) (by decide) | exact bY (t := "int") (fun _=>rfl) (by decide) | exact bY (t := "str") (fun _=>rfl) (by decide) | exact bY (t := "dict") (fun _=>rfl) (by decide) | exact bY (t := "tuple") (fun _=>rfl) (by decide) | exact bY (t := "list") (fun _=>rfl) (by decide)
theorem Gd.isN{B n:Nat}{d:D}(h:Gd B n d):(rd (eE [d,.ty "int"]):DM D)=pure (.bl (isNm d)):=by
 cases h<;>first | exact bY (t := "NoneType") (fun _=>rfl) (by decide) | exact bY (t := "bool") (fun _=>rfl) (by decide) | exact bY (t := "int") (fun _=>rfl) (by decide) | exact bY (t := "str") (fun _=>rfl) (by decide) | exact bY (t := "dict") (fun _=>rfl) (by decide) | exact bY (t := "tuple") (fun _=>rfl) (by decide) | exact bY (t := "list") (fun _=>rfl) (by decide)
theorem Hv(l:List D)(i:Nat):(rd (ir none (some (i:Int)) (.tup l)):DM D)=pure (.tup (l.take i)):=aX fun M=>by
 simp only[ir,cutD,HT.sIx_none,HT.sIx_nat,List.drop_zero,Nat.sub_zero]
 exact congrArg (fun z=>some (D.tup z)) (List.take_eq_take_iff.mpr (by omega))
theorem yD(l:List D)(i:Nat):(rd (ir (some (i:Int)) none (.tup l)):DM D)=pure (.tup (l.drop i)):=aX fun M=>by
 simp only[ir,cutD,HT.sIx_none,HT.sIx_nat]
 by_cases h:i≤l.length
 ·rw[Nat.min_eq_left h,List.take_of_length_le (by simp)]
 ·rw[Nat.min_eq_right (by omega),List.drop_of_length_le (Nat.le_refl _),List.drop_of_length_le (by omega),List.take_nil]
theorem Gx{l:List D}{i:Nat}(h:i<l.length):(rd (ir (some (i:Int)) (some ((i+1:Nat):Int)) (.tup l)):DM D)=pure (.tup [l[i]]):=aX fun M=>by
 simp only[ir,cutD,HT.sIx_nat]
 rw[Nat.min_eq_left (by omega),Nat.min_eq_left (by omega),List.drop_eq_getElem_cons h,Nat.add_sub_cancel_left];rfl
theorem fj{x y:List D}(h:x.length+y.length≤10000000):(rd (b7 (.tup x) (.tup y)):DM D)=pure (.tup (x++y)):=aX fun M=>by
 have:dg (x++y)=true:=by unfold dg;exact decide_eq_true (by show _≤2^24;rw[List.length_append];omega)
 simp[b7,wy,this]
theorem G9(i:Int):ul (.int i)=pure (some i):=id rfl
theorem pQ(i:Nat):ul (nD i)=pure (some (i:Int)):=id rfl
theorem Rn.asc{α β γ:Type}{m:DM α}{f:α->DM β}{g:β->DM γ}{M:Mo}{Q:γ->Mo->Prop}(h:Rn (m>>=fun a=>f a>>=g) M Q):Rn ((m>>=f)>>=g) M Q:=by rw[aF];exact h
noncomputable def pZ:D->Bool
 |.int _=>true
 |_=>false
theorem Gd.isB{B n:Nat}{d:D}(h:Gd B n d)(hN:isNm d=true):(rd (eE [d,.ty "bool"]):DM D)=pure (.bl (!pZ d)):=by
 cases h with
 |bl b=>exact bY (t := "bool") (fun _=>rfl) (by decide)
 |int _=>exact bY (t := "int") (fun _=>rfl) (by decide)
 |_=>cases hN
theorem Gd.iw{B n:Nat}{d:D}(h:Gd B n d):mO [d]=pure (.bl (pZ d)):=by
 by_cases hN:isNm d=true
 ·simp[mO,gh,h.isN,hN,h.isB hN]
 ·have:pZ d=false:=by cases d<;>first | rfl | (exact absurd rfl hN)
  rw[Bool.not_eq_true] at hN
  simp[mO,gh,h.isN,hN,this]
noncomputable def mQ:=aP 1 1 gK
theorem Gd.lw{B n:Nat}{d:D}(h:Gd B n d):mQ [d]=pure (.bl (pZ d)):=by
 by_cases hN:isNm d=true
 ·simp[mQ,gK,h.isN,hN,h.isB hN]
 ·have:pZ d=false:=by cases d<;>first | rfl | (exact absurd rfl hN)
  rw[Bool.not_eq_true] at hN
  simp[mQ,gK,h.isN,hN,this]
noncomputable def qG:=aP 1 2 (oN gH)
noncomputable def lE:List D:=[.non,.bl true,.bl false,.int (-1),.int 100000000000,.str "",.str "a",.str "1",.tup [],.lst [],.dic [] [],.lst [.tup []],.tup [.tup []],.tup [.int 0],.lst [.int 0],.dic [.inl 0] [.int 1],.tup [.bl true,.bl true]]
theorem Dy:∀d∈lE,Gd (10^11) 2 d∧wt d≤9000:=by
 have t0:Gd (10^11) 1 (.tup []):=.tup fun _ h=>by cases h
 have i0:Gd (10^11) 1 (.int 0):=.int (by decide)
 have s1:∀x:Str,(reprText x).length≤100->Gd (10^11) 2 (.str x)∧wt (.str x)≤9000:=fun x h=>⟨.str,by simp only[wt];omega⟩
 intro d hd
 simp only[lE,List.mem_cons,List.not_mem_nil,or_false] at hd
 rcases hd with rfl | rfl | rfl | rfl | rfl | rfl | rfl | rfl | rfl | rfl | rfl | rfl | rfl | rfl | rfl | rfl | rfl
 ·exact⟨.non,by simp[wt]⟩
 ·exact⟨.bl _,by simp[wt]⟩
 ·exact⟨.bl _,by simp[wt]⟩
 ·exact⟨.int (by decide),by simp[wt]⟩
 ·exact⟨.int (by decide),by simp[wt]⟩
 ·exact s1 _ (by decide +kernel)
 ·exact s1 _ (by decide +kernel)
 ·exact s1 _ (by decide +kernel)
 ·exact⟨.tup fun _ h=>(by cases h),by simp[wt,aV]⟩
 ·exact⟨.lst fun _ h=>(by cases h),by simp[wt,aV]⟩
 ·exact⟨.d0,by simp[wt]⟩
 ·exact⟨.lst fun x h=>by rw[List.mem_singleton.mp h];exact t0,by simp[wt,aV]⟩
 ·exact⟨.tup fun x h=>by rw[List.mem_singleton.mp h];exact t0,by simp[wt,aV]⟩
 ·exact⟨.tup fun x h=>by rw[List.mem_singleton.mp h];exact i0,by simp[wt,aV]⟩
 ·exact⟨.lst fun x h=>by rw[List.mem_singleton.mp h];exact i0,by simp[wt,aV]⟩
 ·exact⟨.d1,by simp[wt]⟩
 ·exact⟨.tup fun x h=>by simp at h;rw[h];exact .bl _,by simp[wt,aV]⟩
theorem pA{p:Nat}{M:Mo}(h:cG p M):Rn (qG [.ref p]) M fun d M'=>(Gd (10^11) 2 d∧wt d≤9000)∧cG p M'∧Sb p M M':=by
 unfold qG oN jN;dsimp only
 refine Rn.call rfl ?_
 have p11:(rd (qi (.int 10) (.int 11)):DM D)=pure (.int 100000000000):=by rw[rA (by decide)];rfl
 have m1:gf []=pure (.tup []):=dD (by simp)
 have m2:dH []=pure (.lst []):=cz (by simp)
 have m3:gf [.tup []]=pure (.tup [.tup []]):=dD (by simp)
 have m3':dH [.tup []]=pure (.lst [.tup []]):=cz (by simp)
 have m4:gf [.int 0]=pure (.tup [.int 0]):=dD (by simp)
 have m5:dH [.int 0]=pure (.lst [.int 0]):=cz (by simp)
 have m6:gf [.bl true,.bl true]=pure (.tup [.bl true,.bl true]):=dD (by simp)
 have m7:dH lE=pure (.lst lE):=cz (by simp[lE])
 refine aM fun K hK=>?_
 simp[p11,m1,m2,m3,m3',m4,m5,m6]
 change Rn (dH lE>>=_) M _
 rw[m7,au,hK];clear hK K
 simp
 refine Rn.bind (cj (far:=(lE.length:Int)) h (by decide) (by decide)) fun d1 M1 ⟨t,g,e,hp1,s1⟩=>?_
 subst e
 have ht:t<lE.length:=by omega
 obtain⟨x,hx,ex⟩:=qj ht
 rw[ex]
 exact Rn.pure ⟨_,rfl,Dy _ hx,hp1,s1⟩
theorem Ey(l:List D):(rd (ir (some (-1)) none (.tup l)):DM D)=pure (.tup (l.drop (l.length-1))):=aX fun M=>by
 simp only[ir,cutD,HT.sIx_none]
 have e:HT.sIx l.length 0 (some (-1))=l.length-1:=by
  show (if (-1:Int)<0 then (-1+(l.length:Int)).toNat else min (-1:Int).toNat l.length)=_
  rw[if_pos (by decide)];omega
 rw[e,List.take_of_length_le (by simp)]
noncomputable def qF:Nat->List D->DM D
 |0=>aP 2 4 fun _=>stuck
 |n+1=>aP 2 4 (mR gH mQ qG (qF n))
theorem Ce{l:List D}{c:Nat}(h:∀x∈l,wt x≤c):aV (l.drop (l.length-1))≤c+2:=by
 by_cases h0:l.length=0
 ·rw[List.length_eq_zero_iff.mp h0];simp[aV]
 ·have hl:l.length-1<l.length:=by omega
  rw[List.drop_eq_getElem_cons hl,List.drop_of_length_le (by omega)]
  have:=h _ (List.getElem_mem hl)
  simp only[aV];omega
theorem Cu:∀ (m:Nat) {n B c p:Nat}{d:D}{M:Mo},n<m->Gd B n d->cG p M->wt d≤1000000->(∀ l,d=.tup l->∀ x∈l,wt x≤c)->Rn (qF m [.ref p,d]) M (zY B n c d p M):=by
 intro m
 induction m with
 |zero=>intro n B c p d M h;omega
 | succ m ih=>
   intro n B c p d M hm hd hp hw hcc
   unfold qF mR iR;dsimp only
   refine Rn.call rfl ?_
   have st:dU 4 [D.ref p,d]=[some (.ref p),some d,none,none]:=rfl
   rw[st]
   refine gA fun K hK hR=>?_
   simp[hd.isT]
   by_cases hT:lB d=true
   ·simp [hT]
    rw[hK];clear hK hR K
    cases hd with
    | @tup n l hl=>
      have hwl:aV l+3≤1000000:=by simpa only[wt] using hw
      have hlen:=gF l
      have hcl:=hcc l rfl
      have m0:gf []=pure (.tup []):=dD (by simp)
      have eqz:(rd (CN (.tup l) (.tup [])):DM D)=pure (.bl l.isEmpty):=aX fun M=>rfl
      have mg:∀{x:D},Gd B n x->Gd (B+10^12) (n+2) x:=fun h=>h.mono (by omega) (by omega)
      have md:∀{x:D},Gd (10^11) 2 x->Gd (B+10^12) (n+2) x:=fun h=>h.mono (by omega) (by omega)
      refine aM fun K hK=>?_
      simp
      refine Rn.bind (cj (far:=12) hp (by decide) (by decide)) fun d1 M1 ⟨way,g,e,hp1,s1⟩=>?_
      subst e
      rw[hK];clear hK K
      have ew0:(rd (b8 (nD way) (.int 0)):DM D)=pure (.bl (decide (way=0))):=cT way 0
      have ew1:(rd (b8 (nD way) (.int 1)):DM D)=pure (.bl (decide (way=1))):=cT way 1
      have ew2:(rd (b8 (nD way) (.int 2)):DM D)=pure (.bl (decide (way=2))):=cT way 2
      refine gA fun K hK hR=>?_
      refine Rn.asc (Rn.bind (Q1:=fun k M'=>k=(decide (way=0) || l.isEmpty)∧M'=M1) ?_ fun k M' ⟨e1,e2⟩=>?_)
      ·by_cases h:decide (way=0)=true
       ·simp only[bW,aF,aU,ew0,cL,h,if_true];exact Rn.pure ⟨rfl,rfl⟩
       ·rw[Bool.not_eq_true] at h
        simp only[bW,aF,aU,ew0,cL,h,Bool.false_eq_true,if_false,m0,eqz];exact Rn.pure ⟨rfl,rfl⟩
      subst e1 e2
      by_cases hz:(decide (way=0) || l.isEmpty)=true
      ·rw [hz,if_pos rfl]
       have ll:(rd (fun M=>(gj [.tup l] M).map D.lst):DM D)=pure (.lst l):=aX fun M=>rfl
       simp only[bW,aF,aU]
       refine Rn.bind (pA hp1) fun o1 M2 ⟨⟨go,wo⟩,hp2,s2⟩=>?_
       simp only[ll,au]
       refine Rn.bind (pA hp2) fun o2 M3 ⟨⟨ux,wo2⟩,hp3,s3⟩=>?_
       have mk1:gf [o2]=pure (.tup [o2]):=dD (by simp)
       have ad1:(rd (b7 (.tup l) (.tup [o2])):DM D)=pure (.tup (l++[o2])):=fj (by simp;omega)
       have ld:=Ce hcl
       have ll2:(l.drop (l.length-1)).length≤1:=by rw[List.length_drop];omega
       have ad2:(rd (b7 (.tup l) (.tup (l.drop (l.length-1)))):DM D)=pure (.tup (l++l.drop (l.length-1))):=fj (by omega)
       simp only[mk1,au,ad1,vO,G9,Ey,ad2]
       have ml:dH [o1,.lst l,.tup (l++[o2]),.tup (l++l.drop (l.length-1))]=pure (.lst [o1,.lst l,.tup (l++[o2]),.tup (l++l.drop (l.length-1))]):=cz (by simp)
       simp only[ml,au]
       refine Rn.bind (cj (far:=4) hp3 (by decide) (by decide)) fun d3 M4 ⟨t,gt,e,hp4,s4⟩=>?_
       subst e
       have hm':∀ x∈([o1,.lst l,.tup (l++[o2]),.tup (l++l.drop (l.length - 1))]:List D),Gd (B + 10 ^ 12) (n + 1 + 2) x∧wt x≤wt (.tup l) + c + 10000:=by
        intro x hx
        simp only[List.mem_cons,List.not_mem_nil,or_false] at hx
        simp only[wt]
        rcases hx with rfl | rfl | rfl | rfl
        ·exact⟨(md go).mono (Nat.le_refl _) (by omega),by omega⟩
        ·exact⟨.lst fun x hx=>mg (hl x hx),by simp only[wt];omega⟩
        ·exact⟨.tup fun x hx=>by
          rcases List.mem_append.mp hx with hx | hx
          ·exact mg (hl x hx)
          ·rw[List.mem_singleton.mp hx];exact md ux,by simp only[wt,d7,aV];omega⟩
        ·exact⟨.tup fun x hx=>by
          rcases List.mem_append.mp hx with hx | hx
          ·exact mg (hl x hx)
          ·exact mg (hl x (List.mem_of_mem_drop hx)),by simp only[wt,d7];omega⟩
       obtain⟨x,hx,ex⟩:=qj (L:=[o1,.lst l,.tup (l++[o2]),.tup (l++l.drop (l.length-1))]) (t:=t) (by show t<4;omega)
       rw[ex,au,hR]
       exact Rn.pure ⟨_,rfl,.mk (hm' _ hx).1 (hm' _ hx).2 hp4 (s1.trans (s2.trans (s3.trans s4)))⟩
      ·rw [if_neg hz,au,hK];clear hK hR K
       have l0:0<l.length:=by
        cases l with
        |nil=>simp at hz
        |cons a l=>simp
       refine aM fun K hK=>?_
       simp
       refine Rn.bind (cj (far:=(l.length:Int)) hp1 (by omega) (by omega)) fun d3 M2 ⟨a,ga',e,hp2,s2⟩=>?_
       subst e
       have ga':a<l.length:=by omega
       rw[hK];clear hK K
       have c1:=uX l a
       have c2:=uX l (a+1)
       have c3:=jy (List.getElem_mem ga')
       have c5:=hcl _ (List.getElem_mem ga')
       have c4:aV (l.drop a)=wt l[a]+2+aV (l.drop (a+1)):=by rw[List.drop_eq_getElem_cons ga'];simp only[aV]
       have to1:=Hv l a
       have fr1:(rd (ir (some ((a+1:Nat):Int)) none (.tup l)):DM D)=pure (.tup (l.drop (a+1))):=yD l (a+1)
       have fr0:=yD l a
       have one:=Gx ga'
       have hwt:wt (.tup l)=aV l+3:=by simp only[wt]
       have g1:∀x∈l.take a,Gd (B+10^12) (n+2) x:=fun x hx=>mg (hl x (List.mem_of_mem_take hx))
       have g2:∀x∈l.drop (a+1),Gd (B+10^12) (n+2) x:=fun x hx=>mg (hl x (List.mem_of_mem_drop hx))
       have g3:∀x∈l.drop a,Gd (B+10^12) (n+2) x:=fun x hx=>mg (hl x (List.mem_of_mem_drop hx))
       have t1:(l.take a).length≤l.length:=by rw[List.length_take];omega
       have t2:(l.drop (a+1)).length≤l.length:=by rw[List.length_drop];omega
       have t3:(l.drop a).length≤l.length:=by rw[List.length_drop];omega
       have ixa:(rd (gP (.tup l) (nD a)):DM D)=pure l[a]:=Am (List.getElem?_eq_getElem ga')
       have hza:=hl _ (List.getElem_mem ga')
       revert c1 c2 c3 c4 c5 to1 fr1 fr0 one g1 g2 g3 t1 t2 t3 ixa hza
       generalize l[a]=z
       generalize l.take a=ta
       generalize l.drop (a+1)=db
       generalize l.drop a=da
       intro c1 c2 c3 c4 c5 to1 fr1 fr0 one g1 g2 g3 t1 t2 t3 ixa hza
       refine gA fun K hK hR=>?_
       by_cases h1:way=1
       ·have ad:(rd (b7 (.tup ta) (.tup db)):DM D)=pure (.tup (ta++db)):=fj (by omega)
        have ew1':(rd (b8 (nD way) (.int 1)):DM D)=pure (.bl true):=by rw[ew1,decide_eq_true h1]
        simp[ew1',pQ,to1]
        simp only[jt,au,pQ,fr1,ad,hR]
        refine Rn.pure ⟨_,rfl,.mk (.tup fun x hx=>?_) ?_ hp2 (s1.trans s2)⟩
        ·rcases List.mem_append.mp hx with hx | hx
         ·exact g1 x hx
         ·exact g2 x hx
        ·rw[hwt];simp only[wt,d7];omega
       simp[ew1,h1]
       rw[hK];clear hK hR K
       refine gA fun K hK hR=>?_
       by_cases h2:way=2
       ·have ad:(rd (b7 (.tup ta) (.tup [z])):DM D)=pure (.tup (ta++[z])):=fj (by simp;omega)
        have ad':(rd (b7 (.tup (ta++[z])) (.tup da)):DM D)=pure (.tup (ta++[z]++da)):=fj (by simp;omega)
        have ew2':(rd (b8 (nD way) (.int 2)):DM D)=pure (.bl true):=by rw[ew2,decide_eq_true h2]
        simp[ew2',pQ,to1]
        simp only[jt,au,pQ,fr0,one,ad,ad',hR]
        refine Rn.pure ⟨_,rfl,.mk (.tup fun x hx=>?_) ?_ hp2 (s1.trans s2)⟩
        ·rcases List.mem_append.mp hx with hx | hx
         ·rcases List.mem_append.mp hx with hx | hx
          ·exact g1 x hx
          ·rw[List.mem_singleton.mp hx];exact mg hza
         ·exact g3 x hx
        ·rw[hwt];simp only[wt,d7,aV];omega
       simp[ew2,h2]
       rw[hK];clear hK hR K
       simp[pQ,to1,ixa]
       refine Rn.bind (ih (c:=c) (by omega) hza hp2 (by omega) (fun l' hl' x hx=>by have:=jy hx;have h6:wt z=aV l' + 3:=(by rw[hl'];simp only[wt]);omega)) fun r M3 ⟨⟨gr,wr⟩,hp3,s3⟩=>?_
       have mk1:gf [r]=pure (.tup [r]):=dD (by simp)
       have ad:(rd (b7 (.tup ta) (.tup [r])):DM D)=pure (.tup (ta++[r])):=fj (by simp;omega)
       have ad':(rd (b7 (.tup (ta++[r])) (.tup db)):DM D)=pure (.tup (ta++[r]++db)):=fj (by simp;omega)
       simp only[mk1,au,ad,jt,pQ,fr1,ad']
       refine Rn.pure ⟨_,rfl,.mk (.tup fun x hx=>?_) ?_ hp3 (s1.trans (s2.trans s3))⟩
       ·rcases List.mem_append.mp hx with hx | hx
        ·rcases List.mem_append.mp hx with hx | hx
         ·exact g1 x hx
         ·rw[List.mem_singleton.mp hx];exact gr
        ·exact g2 x hx
       ·rw[hwt];simp only[wt,d7,aV];omega
    |_=>cases hT
   ·rw [Bool.not_eq_true] at hT
    simp[hT]
    simp[hd.lw]
    have odw:∀{M1:Mo},cG p M1->Sb p M M1->Rn (qG [.ref p]) M1 fun r M'=>zY B n c d p M r M':=fun hp1 s1=>(pA hp1).mono fun r M' ⟨⟨a,b⟩,c,e⟩=>.mk (a.mono (by omega) (by omega)) (by omega) c (s1.trans e)
    by_cases hN:pZ d=true
    ·obtain ⟨i,rfl⟩:∃ i,d=.int i:=by cases d<;>first | exact ⟨_,rfl⟩ | cases hN
     have bi:i.natAbs≤B:=by cases hd;assumption
     simp[hN]
     refine Rn.bind (cj (far:=3) hp (by decide) (by decide)) fun d1 M1 ⟨t,g,e,hp1,s1⟩=>?_
     subst e
     have g0:(rd (qN (nD t) (.int 0)):DM D)=pure (.bl (decide (0<t))):=tK t 0
     rw[g0]
     by_cases h0:0<t
     ·have pw:(rd (qi (.int 10) (.int 4)):DM D)=pure (.int 10000):=by rw[rA (by decide)];rfl
      have ml:dH [.int 1,.int (-1),.int 9,.int 100,.int 9999,.int (-10000)]=pure (.lst [.int 1,.int (-1),.int 9,.int 100,.int 9999,.int (-10000)]):=cz (by simp)
      simp[h0,pw,ml]
      refine Rn.bind (cj (far:=6) hp1 (by decide) (by decide)) fun d2 M2 ⟨u,gu,e,hp2,s2⟩=>?_
      subst e
      obtain⟨x,hx,ex⟩:=qj (L:=[.int 1,.int (-1),.int 9,.int 100,.int 9999,.int (-10000)]) (t:=u) (by show u<6;omega)
      obtain⟨j,hj,rfl⟩:∃j:Int,j.natAbs≤10000∧x=.int j:=by
       simp only[List.mem_cons,List.not_mem_nil,or_false] at hx
       rcases hx with rfl | rfl | rfl | rfl | rfl | rfl<;>exact⟨_,by decide,rfl⟩
      rw[ex,au,Al,au,hR]
      exact Rn.pure ⟨_,rfl,.mk (.int (by omega)) (by simp only[wt];omega) hp2 (s1.trans s2)⟩
     ·simp[h0]
      exact Rn.bind (odw hp1 s1) fun r M' q=>by rw[hR];exact Rn.pure ⟨_,rfl,q⟩
    ·rw[Bool.not_eq_true] at hN
     simp[hN]
     exact Rn.bind (odw hp Sb.refl) fun r M' q=>by rw[hR];exact Rn.pure ⟨_,rfl,q⟩
theorem qZ{fe:aa->DM D}{x:Option D}{rest:aa}{l:List D}(e:D->D)(hl:l.length≤1000000)(h:∀d∈l,fe (some d::rest)=pure (e d)) :
  cN (bA (gN 0) (fun _=>pure true) (bR fe) l (x::rest) [])=pure (iD x l::rest,l.map e):=by
 have:=jE (x:=x) (rest:=rest) (as:=l) (fe:=fe) id e hl h
 simpa using this
theorem tE(l:List D)(p:D->Bool):(rd (iM [.lst (l.map fun d=>.bl (p d))]):DM D)=pure (.bl (l.all p)):=by
 have:=pJ (l.map p)
 rw[List.map_map] at this
 simpa[Function.comp_def] using this
noncomputable def kI:D->Bool
 |.int i=>decide (0≤i)
 |_=>false
noncomputable def cV(n:Nat):D->Bool
 |.tup l=>decide (l.length=n)&&l.all kI
 |_=>false
noncomputable def kh(n:Nat):D->Bool
 |.tup l=>decide (l.length=n)&&l.all (cV n)
 |_=>false
theorem mW:∀ {l:List D},l.all kI=true->∃ ns:List Nat,l=ns.map nD
 |[],_=>⟨[],rfl⟩
 | d::l,h=>by
   rw[List.all_cons,Bool.and_eq_true] at h
   obtain⟨ns,rfl⟩:=mW h.2
   have h1:=h.1
   cases d with
   |int i=>
     simp only[kI,decide_eq_true_eq] at h1
     refine⟨i.toNat::ns,?_⟩
     have:nD i.toNat=.int i:=by unfold nD;congr 1;omega
     simp[this]
   |_=>cases h1
theorem Gw {n:Nat}{d:D} (h:cV n d=true):∃ ns:List Nat,d=nT ns∧ns.length=n:=by
 cases d with
 |tup l=>
   simp only[cV,Bool.and_eq_true,decide_eq_true_eq] at h
   obtain⟨ns,rfl⟩:=mW h.2
   exact⟨ns,rfl,by rw[←h.1,List.length_map]⟩
 |_=>cases h
theorem rows_of {n:Nat}:∀ {l:List D},l.all (cV n)=true->∃ R:List (List Nat),l=R.map nT∧∀ r∈R,r.length=n
 |[],_=>⟨[],rfl,fun _ h=>by cases h⟩
 |d::l,h=>by
   rw[List.all_cons,Bool.and_eq_true] at h
   obtain⟨R,rfl,hR⟩:=rows_of h.2
   obtain⟨ns,rfl,hn⟩:=Gw h.1
   refine⟨ns::R,rfl,fun r hr=>?_⟩
   rcases List.mem_cons.mp hr with rfl | hr
   ·exact hn
   ·exact hR r hr
theorem Gu {n:Nat}{d:D} (h:kh n d=true):∃ R:List (List Nat),d=nM R∧R.length=n∧∀ r∈R,r.length=n:=by
 cases d with
 |tup l=>
   simp only[kh,Bool.and_eq_true,decide_eq_true_eq] at h
   obtain⟨R,rfl,hR⟩:=rows_of h.2
   exact⟨R,rfl,by rw[←h.1,List.length_map],hR⟩
 |_=>cases h
theorem Gd.wg{B n:Nat}{d:D}(h:Gd B n d):((mO [d]>>=fun x=>dm x>>=fun k=>if k=true then rd (o7 d (.int 0)) else pure (.bl false)):DM D)=pure (.bl (kI d)):=by
 rw[h.iw,au,cL,au]
 cases d with
 |int i=>exact zT i 0
 |_=>rfl
theorem Gd.wl{B n:Nat}{d:D}(h:Gd B n d):((mQ [d]>>=fun x=>dm x>>=fun k=>if k=true then rd (o7 d (.int 0)) else pure (.bl false)):DM D)=pure (.bl (kI d)):=by
 rw[h.lw,au,cL,au]
 cases d with
 |int i=>exact zT i 0
 |_=>rfl
theorem Gd.aw {B n:Nat}{d:D} (h:Gd B n d) (hw:wt d≤1500000) (m:Nat):kO [d,nD m]=pure (.bl (cV m d)):=by
 have isT:=h.isT
 by_cases hT:lB d=false
 ·have:cV m d=false:=by cases d<;>first | rfl | cases hT
  rw[this]
  simp[kO,cP,isT,hT]
 cases h with
 | @tup n l hl=>
   have hlen:=gF l
   have hwl:aV l+3≤1500000:=by simpa only[wt] using hw
   have ln:(rd (cR (.int (l.length:Int)) (nD m)):DM D)=pure (.bl (!decide (l.length=m))):=lK l.length m
   by_cases hm:¬ l.length=m
   ·have lf:(rd (cR (.int (l.length:Int)) (nD m)):DM D)=pure (.bl true):=by rw[ln,decide_eq_false hm];rfl
    simp[kO,cP,isT,hT,lf,cV,hm]
   have hm:l.length=m:=by omega
   have lt:(rd (cR (.int (l.length:Int)) (nD m)):DM D)=pure (.bl false):=by rw[ln,decide_eq_true hm];rfl
   have c1:=qZ (x:=none) (rest:=[]) (l:=l) (fe:=fun δ=>opt δ[0]?.join>>=fun a=>mO [a]>>=fun a_1=>dm a_1>>=fun k=>if k=true then opt δ[0]?.join>>=fun a=>rd (o7 a (.int 0)) else pure (.bl false)) (fun d=>.bl (kI d)) (by omega) (fun d hd=>by
    have:=(hl d hd).wg
    simp only[List.getElem?_cons_zero,Option.join_some,cU,au]
    exact this)
   have e:cV m (.tup l)=l.all kI:=by simp only[cV,decide_eq_true hm,Bool.true_and]
   rw[e]
   simp[kO,cP,isT,hT,lt,aZ,cJ]
   rw[c1,au,tE]
 |_=>exact absurd rfl hT
theorem Gd.ar {B n:Nat}{d:D} (h:Gd B n d) (hw:wt d≤1500000) (m:Nat):mL [d,nD m]=pure (.bl (kh m d)):=by
 have isT:=h.isT
 by_cases hT:lB d=false
 ·have:kh m d=false:=by cases d<;>first | rfl | cases hT
  rw[this]
  simp[mL,d9,isT,hT]
 cases h with
 | @tup n l hl=>
   have hlen:=gF l
   have hwl:aV l+3≤1500000:=by simpa only[wt] using hw
   have ln:(rd (cR (.int (l.length:Int)) (nD m)):DM D)=pure (.bl (!decide (l.length=m))):=lK l.length m
   by_cases hm:¬ l.length=m
   ·have lf:(rd (cR (.int (l.length:Int)) (nD m)):DM D)=pure (.bl true):=by rw[ln,decide_eq_false hm];rfl
    simp[mL,d9,isT,hT,lf,kh,hm]
   have hm:l.length=m:=by omega
   have lt:(rd (cR (.int (l.length:Int)) (nD m)):DM D)=pure (.bl false):=by rw[ln,decide_eq_true hm];rfl
   have c1:=qZ (x:=none) (rest:=[some (nD m)]) (l:=l) (fe:=fun δ=>opt δ[0]?.join>>=fun a=>opt δ[1]?.join>>=fun b=>kO [a,b]) (fun d=>.bl (cV m d)) (by omega) (fun d hd=>by
    simp only[bW]
    exact (hl d hd).aw (by have:=jy hd;omega) m)
   have e:kh m (.tup l)=l.all (cV m):=by simp only[kh,decide_eq_true hm,Bool.true_and]
   rw[e]
   simp[mL,d9,isT,hT,lt,aZ,cJ]
   rw[c1,au,tE]
 |_=>exact absurd rfl hT
theorem uH{m:DM D}{v:D}(h:∀M,Rn m M fun d M'=>d=v∧M'=M):m=pure v:=by
 funext M
 obtain⟨d,M',e,rfl,rfl⟩:=h M
 exact e
noncomputable def iK(R:List (List Nat)):Bool:=decide (1≤(gr R 0).sum)&&R.all fun r=>decide (r.sum=(gr R 0).sum)
noncomputable def zZ(d:D):Prop:=∃R W,d=nM R∧WK R W
theorem Ar{R:List (List Nat)}(h1:1≤R.length)(h2:R.length≤25)(hR:∀r∈R,r.length=R.length)(h:iK R=true):WK R (gr R 0).sum:=by
 unfold iK at h
 rw[Bool.and_eq_true,decide_eq_true_eq,List.all_eq_true] at h
 exact⟨h1,h2,hR,fun r hr=>of_decide_eq_true (h.2 r hr),h.1⟩
theorem Ao{R:List (List Nat)}{W:Nat}(h:WK R W):iK R=true:=by
 unfold iK
 rw[Bool.and_eq_true,decide_eq_true_eq,List.all_eq_true]
 have:=h.sum _ h.head
 exact⟨by rw[this];exact h.w1,fun r hr=>decide_eq_true (by rw[this];exact h.sum r hr)⟩
theorem xQ{d:D}{n:Nat}(h:lB d=false):¬ zZ d:=fun⟨R,W,e,_⟩=>by rw[e] at h;cases h
theorem Gv{R:List (List Nat)}{W:Nat}(h:WK R W):kh R.length (nM R)=true:=by
 unfold nM
 simp only[kh,List.length_map,decide_true,Bool.true_and,List.all_eq_true]
 intro x hx
 obtain⟨r,hr,rfl⟩:=List.mem_map.mp hx
 unfold nT
 simp only[cV,List.length_map,h.row r hr,decide_true,Bool.true_and,List.all_eq_true]
 intro y hy
 obtain⟨n,_,rfl⟩:=List.mem_map.mp hy
 simp[kI,nD]
theorem Cz {B n:Nat}{d:D} (h:Gd B n d) (hw:wt d≤1500000):∃ β:Bool,gG [d]=pure (.bl β)∧(β=true ↔ zZ d):=by
 have isT:=h.isT
 by_cases hT:lB d=false
 ·exact⟨false,by simp[gG,bw,isT,hT],by simpa using xQ (n:=0) hT⟩
 have g0:=h
 cases h with
 | @tup n l hl=>
   have ar:=g0.ar hw l.length
   have l1:(rd (ph (.int 1) (.int (l.length:Int))):DM D)=pure (.bl (decide (1≤l.length))):=jw 1 l.length
   have l2:(rd (ph (.int (l.length:Int)) (.int 25)):DM D)=pure (.bl (decide (l.length≤25))):=jw l.length 25
   have len:∀R:List (List Nat),D.tup l=nM R->R.length=l.length:=fun R e=>by
    have:l=R.map nT:=D.tup.inj e
    rw[this,List.length_map]
   by_cases h1:¬ 1≤l.length
   ·refine⟨false,by simp[gG,bw,isT,hT,l1,h1],⟨(fun z=>by cases z),fun⟨R,W,e,w⟩=>absurd w.n1 (by rw[len R e];exact h1)⟩⟩
   have h1:1≤l.length:=by omega
   by_cases h2:¬ l.length≤25
   ·refine⟨false,by simp[gG,bw,isT,hT,l1,l2,h1,h2],⟨(fun z=>by cases z),fun⟨R,W,e,w⟩=>absurd w.n25 (by rw[len R e];exact h2)⟩⟩
   have h2:l.length≤25:=by omega
   have ar':mL [.tup l,.int (l.length:Int)]=pure (.bl (kh l.length (.tup l))):=ar
   by_cases hr:kh l.length (.tup l)=false
   ·refine⟨false,by simp[gG,bw,isT,hT,l1,l2,h1,h2,ar',hr],⟨(fun z=>by cases z),fun⟨R,W,e,w⟩=>?_⟩⟩
    have:=Gv w
    rw[←e,len R e,hr] at this
    cases this
   have hr:kh l.length (.tup l)=true:=by simpa using hr
   obtain⟨R,e,eR,hR⟩:=Gu hr
   rw[←eR] at hR
   have er:l=R.map nT:=D.tup.inj e
   subst er
   have e3:(rd (o7 (nD (gr R 0).sum) (.int 1)):DM D)=pure (.bl (decide (1≤(gr R 0).sum))):=xZ _ 1
   refine⟨iK R,?_,⟨fun z=>⟨R,_,rfl,Ar (by omega) (by omega) hR z⟩,fun⟨R',W,e',w⟩=>?_⟩⟩
   ·have c1:=jE (x:=none) (rest:=[some (nD (gr R 0).sum)]) (as:=R) (fe:=fun δ=>opt δ[0]?.join>>=fun a=>rd (qw [a])>>=fun a=>opt δ[1]?.join>>=fun b=>rd (b8 a b)) nT (fun r=>.bl (decide (r.sum=(gr R 0).sum))) (by omega) (fun r hr=>by
     simp only[bW,tM,cT])
    have ix:(rd (gP (.tup (R.map nT)) (.int 0)):DM D)=pure (nT (gr R 0)):=ju (by omega)
    have aT:oK (.tup (R.map nT))=some (.fix (R.map nT)):=rfl
    have al:=pJ (R.map fun r=>decide (r.sum=(gr R 0).sum))
    rw[List.map_map] at al
    have al:(rd (iM [.lst (R.map fun r=>.bl (decide (r.sum=(gr R 0).sum)))]):DM D)=pure (.bl (R.all fun r=>decide (r.sum=(gr R 0).sum))):=by
     rw[List.all_map] at al
     exact al
    simp only[List.length_map] at l1 l2 h1 h2 ar' hr
    by_cases hs:¬ 1≤(gr R 0).sum
    ·have:iK R=false:=by unfold iK;rw[decide_eq_false hs];rfl
     rw[this]
     simp[gG,bw,isT,hT,l1,l2,h1,h2,ar',hr,ix,e3,hs]
    have hs:1≤(gr R 0).sum:=by omega
    have:iK R=R.all fun r=>decide (r.sum=(gr R 0).sum):=by unfold iK;rw[decide_eq_true hs];rfl
    rw[this,←al]
    simp[gG,bw,isT,hT,l1,l2,h1,h2,ar',hr,ix,e3,hs,aZ,cJ]
    rw[c1,au]
   ·have:=xK e'
    rw[this];exact Ao w
 |_=>exact absurd rfl hT
end K
namespace K
open PySem L2 L3 N10 PyProof.Rows
theorem fF{k:Nat}{tg:D->aa->DM aa}{fb:aa->DM Fl}{l:List D}{δ:aa}:sE k tg fb (.fix l) δ=forL tg fb l δ:=rfl
theorem vW(acc:List Int)(x:Int):step_dedup acc x=if x∈acc then acc else acc++[x]:=by
 unfold step_dedup
 by_cases h:x∈acc<;>simp[h]
theorem wQ:∀ (l acc:List Int),acc.length≤(l.foldl step_dedup acc).length
 |[],_=>Nat.le_refl _
 |x::l,acc=>by
   refine Nat.le_trans ?_ (wQ l (step_dedup acc x))
   rw[vW];split<;>simp
theorem wO {a:Int}:∀ (l:List Int),(∀ x∈l,x=a)->l.foldl step_dedup [a]=[a]
 |[],_=>rfl
 |x::l,h=>by
   have:=h x (.head _)
   subst this
   rw[List.foldl_cons,vW,if_pos (by simp)]
   exact wO l fun y hy=>h y (.tail _ hy)
theorem wR {a:Int}:∀ (l:List Int),(∃ x∈l,x≠a)->2≤(l.foldl step_dedup [a]).length
 |[],h=>by obtain⟨x,hx,_⟩:=h;cases hx
 | x::l,h=>by
   rw[List.foldl_cons,vW]
   by_cases e:x=a
   ·subst e
    rw[if_pos (by simp)]
    obtain⟨y,hy,ne⟩:=h
    rcases List.mem_cons.mp hy with rfl | hy
    ·exact absurd rfl ne
    ·exact wR l ⟨y,hy,ne⟩
   ·rw[if_neg (by simpa using e)]
    exact wQ l ([a]++[x])
theorem CG {R:List (List Nat)} (h:1≤R.length):decide ((((R.map List.sum).map fun n:Nat=>(n:Int)).foldl step_dedup []).length=1)=R.all fun r=>decide (r.sum=(gr R 0).sum):=by
 cases R with
 |nil=>simp at h
 | cons r R=>
   have e0:gr (r::R) 0=r:=rfl
   rw[e0,List.map_cons,List.map_cons,List.foldl_cons]
   have:step_dedup [] (r.sum:Int)=[(r.sum:Int)]:=rfl
   rw[this]
   by_cases ha:∀x∈R,x.sum=r.sum
   ·rw[wO _ (fun x hx=>by
     rw[List.map_map] at hx
     obtain⟨y,hy,rfl⟩:=List.mem_map.mp hx
     simp[ha y hy])]
    symm
    simp only[List.length_singleton,decide_true,List.all_eq_true]
    intro x hx
    rcases List.mem_cons.mp hx with rfl | hx
    ·simp
    ·exact decide_eq_true (ha x hx)
   ·have ⟨x,hx,ne⟩:∃x∈R,x.sum≠r.sum:=by simpa using ha
    have:=wR (a:=(r.sum:Int)) ((R.map List.sum).map fun n:Nat=>(n:Int)) ⟨(x.sum:Int),by rw[List.map_map];exact List.mem_map.mpr ⟨x,hx,rfl⟩,by omega⟩
    rw[decide_eq_false (by omega)]
    symm
    rw[List.all_eq_false]
    exact⟨x,.tail _ hx,by simpa using ne⟩
theorem sH {tg:D->aa->DM aa}{fb:aa->DM Fl} (I:Nat->aa->Mo->Prop) (P:D->Mo->Prop):∀ (ds:List D) (i:Nat) (δ:aa) (M:Mo),I i δ M->(∀ j d δ M,ds[j]?=some d->I (i + j) δ M->Rn (tg d δ >>= fb) M fun r M'=>(∃ δ',r=.nx δ'∧I (i + j + 1) δ' M')∨∃ d,r=.rt d∧P d M')->Rn (forL tg fb ds δ) M fun r M'=>(∃ δ',r=.nx δ'∧I (i + ds.length) δ' M')∨∃ d,r=.rt d∧P d M'
 |[],i,δ,M,h,_=>Rn.pure (.inl ⟨δ,rfl,h⟩)
 | d::ds,i,δ,M,h,st=>by
   have s:=st 0 d δ M rfl h
   have e:forL tg fb (d::ds) δ=(tg d δ>>=fb)>>=fun r=>match r with
    |.nx δ2=>forL tg fb ds δ2
    |.ct δ2=>forL tg fb ds δ2
    |.bk δ2=>Pure.pure (.nx δ2)
    |.rt d=>Pure.pure (.rt d):=by rw[aF];rfl
   rw[e]
   refine Rn.bind s fun r M' h=>?_
   rcases h with ⟨δ',e,h'⟩ | ⟨d',e,h'⟩
   ·subst e
    have ih:=sH I P ds (i+1) δ' M' h' (fun j d δ M hj hI=>by
     have:=st (j+1) d δ M (by simpa using hj) (by rw[show i+(j+1)=i+1+j by omega];exact hI)
     rw[show i+1+j+1=i+(j+1)+1 by omega];exact this)
    rw[show i+(d::ds).length=i+1+ds.length by simp;omega]
    exact ih
   ·subst e
    exact Rn.pure (.inr ⟨_,rfl,h'⟩)
noncomputable def jA:=aP 1 2 (cB mQ)
noncomputable def jz(n:Nat)(l:List D):Prop:=l.all (cV n)=false
noncomputable def G5(n:Nat)(M0:Mo)(pre:aa)(l:List D)(i:Nat)(δ:aa)(M:Mo):Prop:=(∃z,δ=pre++[z])∧M=M0∧(l.take i).all (cV n)=true
noncomputable def Ci(l:List D)(r:D):Prop:=(jz l.length l->r=.bl false)∧∀R:List (List Nat),l=R.map nT->(∀r∈R,r.length=l.length)->r=.bl (iK R)
theorem wD{R:List (List Nat)}{n:Nat}(h:∀r∈R,r.length=n):(R.map nT).all (cV n)=true:=by
 rw[List.all_eq_true]
 intro x hx
 obtain⟨r,hr,rfl⟩:=List.mem_map.mp hx
 unfold nT
 simp only[cV,List.length_map,h r hr,decide_true,Bool.true_and,List.all_eq_true]
 intro y hy
 obtain⟨n,_,rfl⟩:=List.mem_map.mp hy
 simp[kI,nD]
theorem Bg {B n:Nat}{d:D} (h:Gd B n d) (hw:wt d≤1500000):∃ β:Bool,jA [d]=pure (.bl β)∧(β=true ↔ zZ d):=by
 have isT:=h.isT
 by_cases hT:lB d=false
 ·exact⟨false,by simp[jA,cB,isT,hT],by simpa using xQ (n:=0) hT⟩
 cases h with
 | @tup n l hg=>
   have hlen:=gF l
   have hwl:aV l+3≤1500000:=by simpa only[wt] using hw
   have l1:(rd (ph (.int 1) (.int (l.length:Int))):DM D)=pure (.bl (decide (1≤l.length))):=jw 1 l.length
   have l2:(rd (ph (.int (l.length:Int)) (.int 25)):DM D)=pure (.bl (decide (l.length≤25))):=jw l.length 25
   have len:∀R:List (List Nat),D.tup l=nM R->R.length=l.length:=fun R e=>by
    have:l=R.map nT:=D.tup.inj e
    rw[this,List.length_map]
   by_cases h1:¬ 1≤l.length
   ·refine⟨false,by simp[jA,cB,isT,hT,l1,h1],⟨(fun z=>by cases z),fun⟨R,W,e,w⟩=>absurd w.n1 (by rw[len R e];exact h1)⟩⟩
   have h1:1≤l.length:=by omega
   by_cases h2:¬ l.length≤25
   ·refine⟨false,by simp[jA,cB,isT,hT,l1,l2,h1,h2],⟨(fun z=>by cases z),fun⟨R,W,e,w⟩=>absurd w.n25 (by rw[len R e];exact h2)⟩⟩
   have h2:l.length≤25:=by omega
   have key:∀ M,Rn (jA [.tup l]) M fun r M'=>M'=M∧Ci l r:=by
    intro M
    unfold jA cB eF;dsimp only
    refine Rn.call rfl ?_
    have st:dU 2 [.tup l]=[some (.tup l),none]:=rfl
    rw[st]
    refine aM fun K hK=>?_
    simp[isT,hT,l1,l2,h1,h2]
    rw[hK];clear hK K
    refine gA fun K hK hR=>?_
    simp[fF]
    refine Rn.bind (sH (G5 l.length M [some (.tup l)] l) (fun r M'=>r=.bl false∧M'=M∧jz l.length l) l 0 _ _ ⟨⟨_,rfl⟩,rfl,by simp⟩ (fun j r δ M5 hj hI=>?_)) (fun r M5 hI=>?_)
    ·obtain ⟨⟨z,rfl⟩,rfl,hall⟩:=hI
     obtain⟨hj',ej⟩:=List.getElem?_eq_some_iff.mp hj
     have hm':r∈l:=List.mem_of_getElem? hj
     have gr':=hg r hm'
     have wr:=jy hm'
     have isR:=gr'.isT
     rw[Nat.zero_add] at hall ⊢
     clear hK hR K
     rw[nZ,au]
     refine gA fun K hK hR=>?_
     have bad:cV l.length r=false->jz l.length l:=fun hb=>by
      unfold jz
      rw[List.all_eq_false];exact⟨r,hm',by rw[hb];decide⟩
     have good:cV l.length r=true->(l.take (j+1)).all (cV l.length)=true:=fun hb=>by
      rw[List.take_succ_eq_append_getElem hj',List.all_append,hall,ej]
      simp[hb]
     by_cases hrT:lB r=false
     ·have rb:cV l.length r=false:=by cases r<;>first | rfl | cases hrT
      simp[isR,hrT,hR]
      exact Rn.pure (.inr ⟨_,rfl,rfl,rfl,bad rb⟩)
     rw[Bool.not_eq_false] at hrT
     obtain⟨ws,rfl⟩:∃ws,r=.tup ws:=by cases r<;>first | exact⟨_,rfl⟩ | cases hrT
     have rn:(rd (cR (.int (ws.length:Int)) (.int (l.length:Int))):DM D)=pure (.bl (!decide (ws.length=l.length))):=lK ws.length _
     by_cases hrl:¬ ws.length=l.length
     ·have rf:(rd (cR (.int (ws.length:Int)) (.int (l.length:Int))):DM D)=pure (.bl true):=by rw[rn,decide_eq_false hrl];rfl
      have rb:cV l.length (.tup ws)=false:=by simp only[cV];rw[decide_eq_false hrl,Bool.false_and]
      simp only[dN,bW,List.cons_append,List.nil_append,aU,aF,isR,hrT,tO,yt,rf,Bool.not_true,Bool.false_eq_true,Bool.true_eq_false,if_false,if_true,cL,hR]
      exact Rn.pure (.inr ⟨_,rfl,rfl,rfl,bad rb⟩)
     have hrl:ws.length=l.length:=by omega
     have rt:(rd (cR (.int (ws.length:Int)) (.int (l.length:Int))):DM D)=pure (.bl false):=by rw[rn,decide_eq_true hrl];rfl
     simp only[dN,bW,List.cons_append,List.nil_append,aU,aF,isR,hrT,tO,yt,rt,Bool.not_true,Bool.false_eq_true,Bool.true_eq_false,if_false,cL]
     rw[hK];clear hK hR K
     cases gr' with
     | @tup k' ws hgw=>
       have c1:=qZ (x:=none) (rest:=[]) (l:=ws) (fe:=fun δ=>opt δ[0]?.join>>=fun a=>mQ [a]>>=fun a_1=>dm a_1>>=fun k=>if k=true then opt δ[0]?.join>>=fun a=>rd (o7 a (.int 0)) else pure (.bl false)) (fun d=>.bl (kI d)) (by have:=gF ws;simp only[wt] at wr;omega) (fun d hd=>by
        have:=(hgw d hd).wl
        simp only[List.getElem?_cons_zero,Option.join_some,cU,au]
        exact this)
       have rb:cV l.length (.tup ws)=ws.all kI:=by simp only[cV];rw[decide_eq_true hrl,Bool.true_and]
       simp[aZ,cJ]
       rw[c1,au,tE]
       by_cases hA:ws.all kI=false
       ·simp[hA]
        exact Rn.pure (.inr ⟨_,rfl,rfl,rfl,bad (by rw[rb,hA])⟩)
       ·rw[Bool.not_eq_false] at hA
        simp[hA]
        exact Rn.pure (.inl ⟨_,rfl,⟨_,rfl⟩,rfl,good (by rw[rb,hA])⟩)
    ·rcases hI with ⟨δ',rfl,⟨z,rfl⟩,rfl,hall⟩ | ⟨r,rfl,rfl,rfl,hbad⟩
     ·rw[Nat.zero_add,List.take_length] at hall
      obtain⟨R,hRl,hRn⟩:=rows_of hall
      rw[hK];clear hK hR K
      have hl1:R.length=l.length:=by rw[hRl,List.length_map]
      have et:D.tup l=nM R:=by rw[hRl];rfl
      have at':oK (nM R)=some (.fix (R.map nT)):=rfl
      rw[et]
      have s1:=jE (x:=none) (rest:=[]) (as:=R) (fe:=fun δ=>opt δ[0]?.join>>=fun a=>rd (qw [a])) nT (fun r=>nD r.sum) (by omega) (fun r hr=>by
       simp only[List.getElem?_cons_zero,Option.join_some,cU,au,tM])
      have ls:q8 [.lst (R.map fun r=>nD r.sum)]=some (.int (((R.map List.sum).map fun n:Nat=>(n:Int)).foldl step_dedup []).length):=by
       have ei:(R.map fun r=>nD r.sum)=((R.map List.sum).map fun n:Nat=>(n:Int)).map D.int:=by rw[List.map_map,List.map_map];rfl
       unfold q8
       dsimp only
       rw[ei,o8,Option.bind_some,if_pos (by simp;omega)]
      have e1:∀k:Nat,(rd (b8 (.int (k:Int)) (.int 1)):DM D)=pure (.bl (decide (k=1))):=fun k=>cT k 1
      have e2:(rd (qN (nD (gr R 0).sum) (.int 0)):DM D)=pure (.bl (decide (0<(gr R 0).sum))):=by
       show (rd (qN (nD (gr R 0).sum) (nD 0)):DM D)=_
       unfold nD
       rw[Ek]
       congr 2
       rw[Bool.eq_iff_iff];simp
      have ix:=ju (R:=R) (by omega)
      have dd:=CG (R:=R) (by omega)
      have fin:∀β:Bool,β=iK R->∃d,Fl.rt (.bl β)=.rt d∧M5=M5∧Ci l d:=by
       intro β hβ
       refine⟨_,rfl,rfl,fun hb=>(by unfold jz at hb;rw[hall] at hb;cases hb),fun R' hR' _=>?_⟩
       have:R'=R:=(List.map_inj_right fun _ _=>sU).mp (hR'.symm.trans hRl)
       rw[this,hβ]
      have sm:iK R=(decide ((((R.map List.sum).map fun n:Nat=>(n:Int)).foldl step_dedup []).length=1)&&decide (0<(gr R 0).sum)):=by
       rw[dd]
       unfold iK
       rw[Bool.and_comm];rfl
      simp only[bW,List.cons_append,List.nil_append,aU,aF,at',aZ,cJ,List.map_nil,ql,List.length_cons,List.length_nil,List.replicate_succ,List.replicate_zero]
      rw[s1]
      simp only[au,lM,ls,cU,e1,cL]
      by_cases hd:(((R.map List.sum).map fun n:Nat=>(n:Int)).foldl step_dedup []).length=1
      ·simp only[hd,decide_true,if_true,ix,au,tM,e2]
       exact Rn.pure (fin _ (by rw[sm,hd];rfl))
      ·rw[decide_eq_false hd]
       simp only[Bool.false_eq_true,if_false,au]
       exact Rn.pure (fin _ (by rw[sm,decide_eq_false hd];rfl))
     ·rw[hR]
      exact Rn.pure ⟨_,rfl,rfl,fun _=>rfl,fun R hR' hl=>by
       unfold jz at hbad
       rw[hR'] at hbad hl
       rw[wD hl] at hbad;cases hbad⟩
   by_cases hA:jz l.length l
   ·refine⟨false,uH fun M=>(key M).mono fun r M' ⟨e,p⟩=>⟨p.1 hA,e⟩,⟨(fun z=>by cases z),fun⟨R,W,e,w⟩=>?_⟩⟩
    have er:l=R.map nT:=D.tup.inj e
    unfold jz at hA
    rw[er,List.length_map,wD w.row] at hA;cases hA
   ·have hA:l.all (cV l.length)=true:=by unfold jz at hA;simpa using hA
    obtain⟨R,er,hR⟩:=rows_of hA
    have eL:l.length=R.length:=by rw[er,List.length_map]
    refine⟨iK R,uH fun M=>(key M).mono fun r M' ⟨e,p⟩=>⟨p.2 R er hR,e⟩,⟨fun z=>⟨R,_,by rw[er];rfl,Ar (by omega) (by omega) (fun r hr=>by rw[←eL];exact hR r hr) z⟩,fun⟨R',W,e',w⟩=>?_⟩⟩
    have:R'=R:=(List.map_inj_right fun _ _=>sU).mp ((D.tup.inj e').symm.trans er)
    rw[←this];exact Ao w
 |_=>exact absurd rfl hT
open Classical in
noncomputable def fL(ds:List D):DM D:=if h:∃p:List (List Nat)×Nat,WK p.1 p.2∧ds=[nM p.1] then pure (aY (choose h).1 (choose h).2) else if ∃d,ds=[d]∧gG [d]=pure (.bl false) then raise "BadWalk" else stuck
theorem tX{R:List (List Nat)}{W:Nat}(h:WK R W):fL [nM R]=pure (aY R W):=by
 have q:∃p:List (List Nat)×Nat,WK p.1 p.2∧[nM R]=[nM p.1]:=⟨(R,W),h,rfl⟩
 unfold fL
 rw[dif_pos q]
 obtain⟨a,b⟩:=Classical.choose_spec q
 generalize Classical.choose q=p at a b
 have e:R=p.1:=xK (by simpa using b)
 have w:W=p.2:=by
  have:=h.sum _ h.head
  rw[←this,e]
  exact a.sum _ a.head
 rw[←e,←w]
theorem Fo{d:D}(h:gG [d]=pure (.bl false)):fL [d]=raise "BadWalk":=by
 unfold fL
 rw[dif_neg,if_pos ⟨d,rfl,h⟩]
 rintro⟨p,a,e⟩
 have e:d=nM p.1:=by simpa using e
 rw[e,wN a] at h
 have:=congrFun h []
 cases this
theorem Dd{d:D}(h:gG [d]=pure (.bl false))(M:Mo):Fin (.ref M.length::[d]) (M++[.ins "Walk" [] []])=some (.exc "BadWalk",M++[.ins "Walk" [] []]):=by
 have:o9 (fun _=>pure (D.str "rows are one to ")) (fun δ=>rd (zq (D.int 25))) (fun _=>pure (D.str " tuples of as many weights, of one sum from 1 on")) [some (.ref M.length),some d]=pure (D.str "rows are one to 25 tuples of as many weights, of one sum from 1 on"):=by
  rfl
 simp[Fin,d8,h]
 rw[this];rfl
theorem Fp:∀ ds M r',fL ds M=some r'->Ck "Walk" Fin ds M r':=by
 intro ds M r' e
 unfold fL at e
 split at e
 ·rename_i q
  obtain⟨a,b⟩:=Classical.choose_spec q
  generalize Classical.choose q=p at a b e
  subst b
  cases e
  refine .inl ⟨["rows", "whole"],[nM p.1,nD p.2],De a M,fun d hd=>?_,rfl⟩
  rcases List.mem_cons.mp hd with rfl | hd
  ·exact .inl (by simp)
  ·exact .inr ⟨p.2,by simpa[nD] using hd⟩
 ·split at e
  ·rename_i q
   obtain⟨d,rfl,h⟩:=q
   cases e
   exact .inr ⟨_,_,Dd h M,rfl⟩
  ·cases e
theorem Cd{ns:List Str}{n i:Nat}{fb:aa->DM Fl}{fh:Str->aa->DM Fl}{δ:aa}{c:Str}{d:D}(h:fb δ=raise c)(hc:ns.contains c=true)(hh:fh c ((List.replicate n none).set i (some (.exn 0)))=pure (.rt d)):qz ns n i fb fh δ=pure (.rt d):=by
 funext M
 unfold qz
 rw[h]
 simp only[raise,hc,if_true,hh]
 rfl
theorem Fj{ns:List Str}{n i:Nat}{fb:aa->DM Fl}{fh:Str->aa->DM Fl}{δ:aa}{d:D}(h:fb δ=pure (.rt d)):qz ns n i fb fh δ=pure (.rt d):=by
 funext M
 unfold qz
 rw[h]
 rfl
noncomputable def rH:=aP 1 3 (dI fL)
theorem Dq{d:D}(h:fL [d]=raise "BadWalk"):rH [d]=pure (.str "bad"):=by
 have k:dI fL [some d,none,none]=pure (.rt (.str "bad")):=by
  unfold dI fJ;dsimp only
  refine Cd (c := "BadWalk") ?_ (by decide) ?_
  ·simp[h]
  ·funext M;rfl
 simp[rH,k]
theorem FN{d w:D}(h:fL [d]=pure w):rH [d]=pure w:=by
 have k:dI fL [some d,none,none]=pure (.rt w):=by
  unfold dI fJ;dsimp only
  refine Fj ?_
  simp[h]
 simp[rH,k]
noncomputable def rF:=aP 1 1 iZ
theorem Dm(R:List (List Nat))(W:Nat):rF [aY R W]=pure (nD R.length):=by
 simp[rF,iZ,jG,lJ]
noncomputable def gb:=aP 2 2 fV
theorem qD{p:Mo->Bool}{m:DM D}(h:∀M,p M=true):gq p m=m:=by
 funext M
 unfold gq
 rw[if_pos (h M)]
theorem GZ (a b:List (List Nat)) (ha:a.length≤1000000):(rd (b8 (nM a) (nM b)):DM D)=pure (.bl (decide (a=b))):=aX fun M=>by
 have this:Option.map (fun x=>(R.ok x,M)) (cR (nM a) (nM b) M)=some (R.ok (D.bl !decide (a=b)),M):=congrFun (wZ a b ha) M
 unfold cR at this
 show (L3.eqB (nM a) (nM b)).map D.bl=_
 revert this
 cases (L3.eqB (nM a) (nM b)) with
 |none=>intro e;cases e
 |some x=>
   intro e
   simp only[Option.map_some,Option.some.injEq,Prod.mk.injEq,R.ok.injEq,D.bl.injEq,and_true] at e
   simp only[Option.map_some]
   cases x<;>simp_all
theorem Ad{R R':List (List Nat)}{W W':Nat}(h:R.length≤1000000):gb [aY R W,aY R' W']=pure (.bl (decide (R=R'))):=by
 have i:(rd (lC "Walk" [aY R' W',.cls "Walk"]):DM D)=pure (.bl true):=aX fun M=>rfl
 simp[gb,fV,i,jG,GZ R R' h]
theorem Fy{R:List (List Nat)}{W:Nat}{d:D}(h:∀M,(tyOf d M).isSome=true)(ho:∀k ns vs,d≠.obj k ns vs):gb [aY R W,d]=pure (.bl false):=by
 have i:(rd (lC "Walk" [d,.cls "Walk"]):DM D)=pure (.bl false):=aX fun M=>by
  have hM:=h M
  cases d<;>first | (exact absurd rfl (ho _ _ _)) | (simp only[lC,if_true,gW,hM])
 simp[gb,fV,i]
theorem tU:∀ l:List Int,PyData.showableAll (l.map PyData.int)=true->((PyData.shownAll (l.map PyData.int)).map (·.length)).sum≤1921 * l.length
 |[],_=>by simp[PyData.shownAll]
 |i::l,h=>by
   have h':i.natAbs.log2<1920∧PyData.showableAll (l.map PyData.int)=true:=by simpa[PyData.showableAll,PyData.showable] using h
   have a:=int_text_len_1921 h'.1
   have b:=tU l h'.2
   simp only[List.map_cons,PyData.shownAll,PyData.shown,List.sum_cons,List.length_cons]
   omega
theorem jV:∀xs:List PyData,(PyData.shownAll xs).length=xs.length
 |[]=>by simp[PyData.shownAll]
 |x::xs=>by simp only[PyData.shownAll,List.length_cons,jV xs]
theorem tV {c:Nat}:∀ R:List (List Nat),(∀ r∈R,∀ n∈r,n<2 ^ 1000)->(∀ r∈R,r.length≤c)->((PyData.shownAll (R.map fun l=>PyData.tuple (l.map fun n:Nat=>PyData.int (n:Int)))).map (·.length)).sum≤(1923 * c + 3) * R.length
 |[],_,_=>by simp[PyData.shownAll]
 | r::R,h,hc=>by
   have b:=tV R (fun x hx=>h x (.tail _ hx)) (fun x hx=>hc x (.tail _ hx))
   have lr:=hc r (.head _)
   have s:=lV (l:=r.map fun n:Nat=>(n:Int)) (fun i hi=>by
    obtain⟨n,hn,rfl⟩:=List.mem_map.mp hi
    rw[Int.natAbs_natCast];exact h r (.head _) n hn)
   have a:=tU _ s
   have t:=tupleText_len_le (PyData.shownAll (r.map fun n:Nat=>PyData.int (n:Int)))
   rw[jV,List.length_map] at t
   rw[List.map_map,List.length_map] at a
   have a:((PyData.shownAll (r.map fun n:Nat=>PyData.int (n:Int))).map (·.length)).sum≤1921*r.length:=a
   simp only[List.map_cons,PyData.shownAll,PyData.shown,List.sum_cons,List.length_cons]
   rw[Nat.mul_add]
   omega
theorem BW {R:List (List Nat)} (h:∀ l∈R,∀ n∈l,n<2 ^ 1000) (hl:∀ l∈R,l.length≤30) (hR:R.length≤30):∃ s:Str,(rd (eG [nM R]):DM D)=pure (.str s)∧s.length≤2000000:=by
 have d:=nG R
 have b:=wF hl
 have:(1923*30+100)*R.length≤(1923*30+100)*30:=Nat.mul_le_mul_left _ hR
 have ok:=BX (d:=nM R) (p:=.tuple (R.map fun l=>PyData.tuple (l.map fun n:Nat=>PyData.int (n:Int)))) (by unfold nM;simp[toPy,jX]) (by simp only[PyData.showable];exact uO h) (by simp only[PyData.depth];omega) (by simp only[bB];show _≤2^24;omega)
 refine⟨(PyData.tuple (R.map fun l=>PyData.tuple (l.map fun n:Nat=>PyData.int (n:Int)))).shown,?_,?_⟩
 ·refine aX fun M=>?_
  have h0:lF (nM R)=some (PyData.tuple (R.map fun l=>PyData.tuple (l.map fun n:Nat=>PyData.int (n:Int)))):=by
   unfold lF
   have:toPy (nM R)=some (PyData.tuple (R.map fun l=>PyData.tuple (l.map fun n:Nat=>PyData.int (n:Int)))):=by unfold nM;simp[toPy,jX]
   rw[this]
  have s1:(PyData.tuple (R.map fun l=>PyData.tuple (l.map fun n:Nat=>PyData.int (n:Int)))).showable=true:=by simp only[PyData.showable];exact uO h
  have s2:(PyData.tuple (R.map fun l=>PyData.tuple (l.map fun n:Nat=>PyData.int (n:Int)))).depth≤60:=by simp only[PyData.depth];omega
  have s3:bB (PyData.tuple (R.map fun l=>PyData.tuple (l.map fun n:Nat=>PyData.int (n:Int))))≤sizeLine:=by simp only[bB];show _≤2^24;omega
  simp only[eG,h0,Option.bind_some,s1,s2,s3,decide_true,Bool.and_self,if_true]
 ·simp only[PyData.shown]
  have t:=tupleText_len_le (PyData.shownAll (R.map fun l=>PyData.tuple (l.map fun n:Nat=>PyData.int (n:Int))))
  have a:=tV (c:=30) R h hl
  rw[jV,List.length_map] at t
  have:(1923*30+3)*R.length≤(1923*30+3)*30:=Nat.mul_le_mul_left _ hR
  omega
noncomputable def rJ:=aP 1 1 iu
theorem Be(x:Str):Str.empty++x=x:=by
 first | rfl | simp | exact Str.empty_append x
theorem Ew{R:List (List Nat)}{W:Nat}{s:Str}(h:(rd (eG [nM R]):DM D)=pure (.str s))(hs:s.length≤2000000):rJ [aY R W]=pure (.str ("Walk("++s++")")):=by
 have f:(rd (vB (nM R)):DM D)=pure (.str s):=h
 have l5:(Str.ofString "Walk(").length=5:=by decide +kernel
 have l1:(Str.ofString ")").length=1:=by decide +kernel
 have z:sizeLine=16777216:=by decide
 have k:o9 (fun _=>pure (D.str "Walk(")) (fun δ=>opt δ[0]?.join>>=fun x=>rd (nO "Walk" "rows" x)>>=fun x=>rd (vB x)) (fun _=>pure (D.str ")")) [some (aY R W)]=pure (.str ("Walk("++s++")")):=by
  unfold o9
  simp only[List.getElem?_cons_zero,Option.join_some,cU,au,jG,f,L3.strOf]
  rw[if_pos (by omega)]
  simp only[au,cU]
  rw[if_pos (by omega)]
  simp only[au,cU]
  rw[if_pos (by omega),Be]
 simp[rJ,iu]
 rw[k]
 try rfl
noncomputable def rG:=aP 1 5 (gJ rH jA fL rF gb rJ)
theorem uI{a b:Str}(h:a.length+b.length≤10000000):(rd (b7 (.str a) (.str b)):DM D)=pure (.str (a++b)):=aX fun M=>by
 show (if _ then _ else _)=_
 rw[if_pos (by show _≤2^24;omega)]
theorem w6{R R':List (List Nat)}{W W':Nat}(h:R.length≤1000000):w5 "Walk" gb (aY R W) (aY R' W')=pure (.bl (decide (R=R'))):=by
 show (if ("Walk":Str) = "Walk" then gq _ _ else stuck)=_
 rw[if_pos rfl,qD (p:=gW "Walk" (aY R' W')) (fun M=>rfl)]
 show (gb [aY R W,aY R' W']>>=vp)=_
 rw[Ad h,au];rfl
theorem xM{R R':List (List Nat)}{W W':Nat}(h:R.length≤1000000):Dv "Walk" gb (aY R W) (aY R' W')=pure (.bl (!decide (R=R'))):=by
 show (if ("Walk":Str) = "Walk" then gq _ _ else stuck)=_
 rw[if_pos rfl,qD (p:=gW "Walk" (aY R' W')) (fun M=>rfl)]
 show (gb [aY R W,aY R' W']>>=zG)=_
 rw[Ad h,au];rfl
theorem CT{R:List (List Nat)}{W:Nat}{d:D}(h:∀M,(tyOf d M).isSome=true)(ho:∀k ns vs,d≠.obj k ns vs):w5 "Walk" gb (aY R W) d=pure (.bl false):=by
 show (if ("Walk":Str) = "Walk" then gq _ _ else stuck)=_
 rw[if_pos rfl,qD (fun M=>by cases d<;>first | (exact absurd rfl (ho _ _ _)) | exact h M)]
 show (gb [aY R W,d]>>=vp)=_
 rw[Fy h ho,au];rfl
theorem Gd.ent {B n:Nat}{R:List (List Nat)} (h:Gd B n (nM R)):∀ l∈R,∀ x∈l,x≤B:=by
 intro l hl x hx
 unfold nM at h
 cases h with
 | tup h1=>
   have h2:=h1 (nT l) (List.mem_map.mpr ⟨l,hl,rfl⟩)
   unfold nT at h2
   cases h2 with
   |tup h3=>
     have h4:=h3 (nD x) (List.mem_map.mpr ⟨x,hx,rfl⟩)
     unfold nD at h4
     cases h4 with
     |int h5=>simpa using h5
theorem Fd {l:List Nat}{c:Nat} (h:∀ n∈l,n≤c):l.sum≤l.length * c:=by
 induction l with
 |nil=>simp
 |cons a l ih=>
   have:=ih fun n hn=>h n (by simp[hn])
   have:=h a (by simp)
   rw[List.sum_cons,List.length_cons,Nat.add_mul]
   omega
theorem Dn {B n:Nat}{d:D} (h:Gd B n d) (hB:B≤2 ^ 100) (hn:n≤40) (hw:wt d≤1500000):rG [d]=pure (.bl true):=by
 have hB':B<2^1000:=Nat.lt_of_le_of_lt hB (by decide +kernel)
 obtain⟨sv,esv⟩:=h.sh hB' (by omega) (by omega)
 obtain⟨β,c1,c2⟩:=Cz h hw
 obtain⟨γ,a1,a2⟩:=Bg h hw
 have m2:∀x y:D,gf [x,y]=pure (.tup [x,y]):=fun x y=>dD (by simp)
 have es:(rd (b8 (.str sv) (.str sv)):DM D)=pure (.bl true):=aX fun M=>by simp[b8,L3.eqB]
 have eb:(rd (b8 (.str "bad") (.str "bad")):DM D)=pure (.bl true):=aX fun M=>by simp[b8,L3.eqB]
 by_cases hk:zZ d
 ·have ha:γ=true:=a2.mpr hk
  subst ha
  obtain⟨R,W,rfl,w⟩:=hk
  have h1:=w.n1
  have h25:=w.n25
  have bd:∀l∈R,∀n∈l,n<2^1000:=by
   intro l hl x hx
   exact Nat.lt_of_le_of_lt (h.ent l hl x hx) hB'
  obtain⟨s,e1,e2⟩:=BW bd (fun l hl=>by rw[w.row l hl];omega) (by omega)
  have esv':sv=s:=by
   have:=congrFun (esv.symm.trans e1) []
   cases this;rfl
  subst esv'
  have wk:=tX w
  have md:=FN wk
  have rp:=Ew (W:=W) e1 e2
  have l5:(Str.ofString "Walk(").length=5:=by decide +kernel
  have l1:(Str.ofString ")").length=1:=by decide +kernel
  have A1:=uI (a := "Walk(") (b:=sv) (by omega)
  have A2:=uI (a := "Walk("++sv) (b := ")") (by rw[strLen_append];omega)
  have ns:∀x:Str,(rd (cR (.str x) (.str x)):DM D)=pure (.bl false):=fun x=>by rw[Gr,decide_eq_true rfl];rfl
  have mk3:∀x y z:D,dH [x,y,z]=pure (.lst [x,y,z]):=fun x y z=>cz (by simp)
  have ll:zz "Walk" rF [aY R W]=pure (nD R.length):=by
   show (if ("Walk":Str) = "Walk" then _ else stuck)=_
   rw[if_pos rfl]
   show (rF [aY R W]>>=vq)=_
   rw[Dm,au]
   simp only[vq,nD]
   rw[if_pos ⟨by omega,by omega⟩]
  obtain⟨s3,e3⟩:zV (.lst [nM R,nD W,nD R.length]):=by
   have hW:W≤2^200:=by
    have e0:=w.sum _ w.head
    have s0:=Fd (l:=gr R 0) (c:=2^100) (fun x hx=>Nat.le_trans (h.ent _ w.head x hx) hB)
    rw[e0,w.row _ w.head] at s0
    exact Nat.le_trans s0 (Nat.le_trans (Nat.mul_le_mul_right _ h25) (by decide +kernel))
   refine Gd.sh (B:=2^200) (n:=n+1) (.lst fun x hx=>?_) (by decide +kernel) (by omega) ?_
   ·simp only[List.mem_cons,List.not_mem_nil,or_false] at hx
    rcases hx with rfl | rfl | rfl
    ·exact h.mono (Nat.le_trans hB (by decide +kernel)) (Nat.le_refl _)
    ·exact .int (by simpa using hW)
    ·exact .int (by rw[Int.natAbs_natCast];exact Nat.le_trans h25 (by decide +kernel))
   ·simp only[wt,aV,nD];omega
  have rw':vQ "Walk" rJ [aY R W]=pure (.str ("Walk("++sv++")")):=by
   show (if ("Walk":Str) = "Walk" then _ else stuck)=_
   rw[if_pos rfl]
   show (rJ [aY R W]>>=yW)=_
   rw[rp,au];rfl
  have ix:=ju (R:=R) (by omega)
  have sm:=w.sum _ w.head
  have q1:=w6 (R:=R) (R':=R) (W:=W) (W':=W) (by omega)
  have q2:=xM (R:=R) (R':=R) (W:=W) (W':=W) (by omega)
  have mk4:∀x y z u:D,dH [x,y,z,u]=pure (.lst [x,y,z,u]):=fun x y z u=>cz (by simp)
  rw[decide_eq_true rfl] at q1 q2
  simp[rG,gJ,e1,md,a1,m2,jG,xg,ll,mk3,e3,ix,sm,lJ,ns,wk,rw',A1,A2,q1,q2,mk4,aZ,cJ]
  have al:∀l:List D,(rd (rO (.lst l)):DM Itn)=pure (.fix l):=fun l=>rfl
  have cc:=qZ (x:=none) (rest:=[some (aY R W)]) (l:=[nM R,.str ("Walk("++sv++")"),.non,nD R.length]) (fe:=fun δ=>opt δ[1]?.join>>=fun x=>opt δ[0]?.join>>=fun y=>w5 "Walk" gb x y) (fun _=>.bl false) (by simp) (fun d hd=>by
   simp only[bW]
   simp only[List.mem_cons,List.not_mem_nil,or_false] at hd
   rcases hd with rfl | rfl | rfl | rfl<;>exact CT (fun M=>rfl) (fun _ _ _ z=>by cases z))
  have l1:dH [.bl false]=pure (.lst [.bl false]):=cz (by simp)
  have ml:(rd (fun M=>Option.map D.lst (nU (.lst [.bl false]) (.int 4) M)):DM D)=pure (.lst [.bl false,.bl false,.bl false,.bl false]):=aX fun M=>rfl
  have e4:(rd (b8 (.lst [.bl false,.bl false,.bl false,.bl false]) (.lst [.bl false,.bl false,.bl false,.bl false])):DM D)=pure (.bl true):=aX fun M=>by
   have:L3.eqB (.lst [.bl false,.bl false,.bl false,.bl false]) (.lst [.bl false,.bl false,.bl false,.bl false])=some true:=by
    simp[L3.eqB,eqP,toPy,dG,PyData.canLay0,PyData.canLayAll0,PyData.depth,PyData.depthAll,PyData.eqv,PyData.eqvAll]
   show (L3.eqB _ _).map D.bl=_
   rw[this];rfl
  rw[al,au]
  show (cN (bA _ _ _ _ _ _)>>=_)=_
  rw[cc,au,l1,au,ml,au]
  simp only[List.map_cons,List.map_nil,e4,au,cL,if_true]
 ·have hb:β=false:=by cases β;rfl;exact absurd (c2.mp rfl) hk
  have ha:γ=false:=by cases γ;rfl;exact absurd (a2.mp rfl) hk
  subst hb ha
  have md:=Dq (Fo c1)
  simp[rG,gJ,esv,md,a1,m2,eb,es]
end K
namespace K
open PySem L2 L3 N10
theorem pq {α:Type}{ft:aa->DM Bool}{fe:aa->DM D}{rest:aa}{n:Nat}{M:Mo}{L:List α} (p:α->Bool) (enc e:α->D) (hM:M[n]?=some (.lst (L.map enc))) (hL:L.length≤1000000) (h1:∀ a∈L,ft (some (enc a)::rest) M=some (.ok (p a),M)) (h:∀ a∈L,fe (some (enc a)::rest) M=some (.ok (e a),M)) :
  ∀(k i:Nat) (x:Option D) (l:List D),i+k=L.length+1->1≤k->l=((L.take i).filter p).map e->∃z,gk (gN 0) ft (bR fe) n k i (x::rest) l M=some (.ok (z::rest,(L.filter p).map e),M)
 |0,i,x,l,_,h1,_=>by omega
 | k + 1,i,x,l,hk,_,hl=>by
   have rn:rd (Itn.next (.dyn n) i) M=some (.ok ((L.map enc)[i]?),M):=by
    have:Itn.next (.dyn n) i M=some ((L.map enc)[i]?):=by
     simp only[Itn.next,hM]
    unfold rd
    rw[this];rfl
   by_cases c:i<L.length
   ·have e1:(L.map enc)[i]?=some (enc L[i]):=by rw [List.getElem?_map,List.getElem?_eq_getElem c];rfl
    rw[e1] at rn
    have hf:=h L[i] (List.getElem_mem c)
    have ht:=h1 L[i] (List.getElem_mem c)
    have le:l.length≤L.length:=by
     rw[hl,List.length_map]
     exact Nat.le_trans (List.length_filter_le _ _) (by rw[List.length_take];omega)
    have lt:l.length<sizeLine:=by show _<2^24;omega
    have tk:∀b,p L[i]=b->((L.take (i+1)).filter p).map e=l++(if b then [e L[i]] else []):=fun b hb=>by
     rw[List.take_succ_eq_append_getElem c,List.filter_append,List.map_append,hl]
     cases b<;>simp[hb]
    have key:∀ z,gk (gN 0) ft (bR fe) n k (i + 1) (some (enc L[i])::rest) (((L.take (i + 1)).filter p).map e) M=some (.ok (z::rest,(L.filter p).map e),M)->gk (gN 0) ft (bR fe) n (k + 1) i (x::rest) l M=some (.ok (z::rest,(L.filter p).map e),M):=by
     intro z ih
     show DM.bind (rd (Itn.next (.dyn n) i)) _ M=_
     unfold DM.bind
     rw[rn]
     show ((gN 0 (enc L[i]) (x::rest))>>=fun δ1=>ft δ1>>=fun b=>(if b then bR fe δ1 l else Pure.pure (δ1,l))>>=fun p=>gk _ _ _ n k (i+1) p.1 p.2) M=_
     rw[nZ,au]
     show DM.bind (ft (some (enc L[i])::rest)) _ M=_
     unfold DM.bind
     rw[ht]
     dsimp only
     cases hb:p L[i] with
     |true=>
       rw[tk true hb] at ih
       rw[if_pos rfl] at ih ⊢
       unfold bR
       rw[aF]
       show DM.bind (fe (some (enc L[i])::rest)) _ M=_
       unfold DM.bind
       rw[hf]
       dsimp only
       rw[if_pos lt]
       exact ih
     |false=>
       rw[tk false hb] at ih
       rw[if_neg (by decide),List.append_nil] at ih
       rw[if_neg (by decide)]
       exact ih
    obtain⟨z,ih⟩:=pq p enc e hM hL h1 h k (i+1) (some (enc L[i])) _ (by omega) (by omega) rfl
    exact⟨z,key z ih⟩
   ·have e1:(L.map enc)[i]?=none:=List.getElem?_eq_none (by rw[List.length_map];omega)
    rw[e1] at rn
    refine⟨x,?_⟩
    show DM.bind (rd (Itn.next (.dyn n) i)) _ M=_
    unfold DM.bind
    rw[rn]
    have:L.take i=L:=List.take_of_length_le (by omega)
    rw[hl,this];rfl
theorem zm{α:Type}{ft:aa->DM Bool}{fe:aa->DM D}{rest:aa}{n:Nat}{M:Mo}{L:List α}{x:Option D}(p:α->Bool)(enc e:α->D)(hM:M[n]?=some (.lst (L.map enc)))(hL:L.length≤1000000)(h1:∀a∈L,ft (some (enc a)::rest) M=some (.ok (p a),M))(h:∀a∈L,fe (some (enc a)::rest) M=some (.ok (e a),M)){β:Type}{k:aa×List D->DM β}{Q:β->Mo->Prop}(k':List D->DM β)(hk:∀q,k q=k' q.2)(q:Rn (k' ((L.filter p).map e)) M Q) :
  Rn (rd (rO (.ref n))>>=fun it=>cN (cI (gN 0) ft (bR fe) it (x::rest) [])>>=k) M Q:=by
 refine Rn.bindRd (.dyn n) (by simp only[rO,hM]) ?_
 obtain⟨z,e2⟩:=pq (rest:=rest) p enc e hM hL h1 h (L.length+1) 0 x [] (by omega) (by omega) rfl
 have e1:cI (gN 0) ft (bR fe) (.dyn n) (x::rest) [] M=some (.ok (z::rest,(L.filter p).map e),M):=by
  show DM.bind (rd (fun M=>aQ (.ref n) M)) _ M=_
  unfold DM.bind rd
  simp only[aQ,hM,Option.map_some,List.length_map]
  exact e2
 refine Rn.bind (wC ⟨_,_,e1,rfl,rfl⟩:Rn (cN _) M fun p M'=>p=(z::rest,_)∧M'=M) fun p M' ⟨e1,e2⟩=>?_
 subst e1 e2
 rw[hk]
 exact q
noncomputable def Hg(d:D):Prop:=Gd (2^61) 8 d∧wt d≤1500000
noncomputable def Hr(x:D):Prop:=Gd (2^61) 7 x∧wt x≤50001
theorem lY:∀ {l:List D},(∀ x∈l,Hr x)->aV l≤50003 * l.length
 |[],_=>by simp[aV]
 |a::l,h=>by
   have a1:=(h a (.head _)).2
   have a2:=lY fun x hx=>h x (.tail _ hx)
   simp only[aV,List.length_cons];omega
theorem cg{l:List D}(h:∀x∈l,Hr x)(hn:l.length≤26):Hg (.tup l):=⟨.tup fun x hx=>(h x hx).1,by have:=lY h;simp only[wt];omega⟩
theorem Dc{l:List D}(h:∀x∈l,Hr x)(hn:l.length≤26):Hg (.lst l):=⟨.lst fun x hx=>(h x hx).1,by have:=lY h;simp only[wt];omega⟩
theorem uz{r:List Int}(hl:r.length≤26)(hb:∀i∈r,i.natAbs≤2^61):Hr (.tup (r.map D.int))∧Hr (.lst (r.map D.int)):=by
 have w:∀r:List Int,aV (r.map D.int)=1923*r.length:=fun r=>by
  induction r with
  |nil=>simp[aV]
  |cons a l ih=>simp only[List.map_cons,aV,wt,ih,List.length_cons];omega
 have g:∀x∈r.map D.int,Gd (2^61) 6 x:=fun x hx=>by
  obtain⟨i,hi,rfl⟩:=List.mem_map.mp hx
  exact .int (hb i hi)
 exact⟨⟨.tup g,by simp only[wt,w];omega⟩,⟨.lst g,by simp only[wt,w];omega⟩⟩
theorem ji{r:List Nat}(hl:r.length≤26)(hb:∀i∈r,i≤2^60):Hr (nT r)∧Hr (.lst (r.map nD)):=by
 have:=uz (r:=r.map fun k:Nat=>(k:Int)) (by rw[List.length_map];exact hl) (fun i hi=>by
  obtain⟨k,hk,rfl⟩:=List.mem_map.mp hi
  have:=hb k hk
  rw[Int.natAbs_natCast];omega)
 rw[List.map_map] at this
 exact this
theorem Ay{l:List D}{a b:Option Int}{x:D}(h:x∈cutD l a b):x∈l:=List.mem_of_mem_drop (List.mem_of_mem_take h)
theorem Ax{l:List D}{a b:Option Int}:(cutD l a b).length≤l.length:=by unfold cutD;rw[List.length_take,List.length_drop];omega
noncomputable def yO:=aP 1 12 (Aa uf ug rK gH qG (qF 8) rG fL gb)
noncomputable def G6(cs:List Int)(i:Nat)(δ:aa)(M:Mo):Prop:=∃x1 x2 x3 x4 x5 x6 x7 x8 x9 x10 x11,δ=[some (.scr cs),x1,x2,x3,x4,x5,x6,x7,x8,x9,x10,x11]
noncomputable def HH(pre:aa)(p q:Nat)(i:Nat)(δ:aa)(M:Mo):Prop:=(∃x9 x10 x11,δ=pre++[some (.ref q),x9,x10,x11])∧(∃L:List D,M[q]?=some (.lst L)∧L.length≤40+i∧∀x∈L,Hg x)∧cG p M
theorem tW{a b:List D}(h:a.length+b.length≤1000000):(rd (b7 (.tup a) (.tup b)):DM D)=pure (.tup (a++b)):=aX fun M=>by
 show wy (a++b)=_
 have:dg (a++b)=true:=by unfold dg;exact decide_eq_true (by show _≤2^24;rw[List.length_append];omega)
 unfold wy
 rw[if_pos this]
theorem Bh (cs:List Int) (hcs:cs.length≤1000000):Rn (yO [.scr cs]) [] fun d _=>d=.bl true:=by
 unfold yO Aa vM;dsimp only
 refine Rn.call rfl ?_
 refine aM fun K hK=>?_
 have rg:∀w:Nat,w≤4->lN [nD w]=some (.fix ((List.range w).map nD)):=fun w h=>tL (by omega)
 have e0:∃m:Nat,m≤4∧(D.int (if (if (4:Int)<(cs.length:Int) then 4 else (cs.length:Int)) > 1 then (if (4:Int)<(cs.length:Int) then 4 else (cs.length:Int)) else 1))=nD m:=by
  refine⟨(if (if (4:Int)<(cs.length:Int) then 4 else (cs.length:Int)) > 1 then (if (4:Int)<(cs.length:Int) then 4 else (cs.length:Int)) else 1).toNat,?_,?_⟩
  ·split<;>split<;>omega
  ·unfold nD
   congr 1
   split<;>split<;>omega
 obtain⟨m,hm,em⟩:=e0
 have st:dU 12 [D.scr cs]=[some (.scr cs),none,none,none,none,none,none,none,none,none,none,none]:=rfl
 rw[st]
 simp only[aU,List.getElem?_cons_zero,Option.join_some,cU,au,aF,El,Eo,En,em,rg m hm,fF]
 refine Rn.bind (gM (G6 cs) _ 0 _ _ ⟨_,_,_,_,_,_,_,_,_,_,_,rfl⟩ (fun j d δ M hj hI=>?_)) (fun r M hI=>?_)
 rotate_left
 ·obtain⟨δ',rfl,_⟩:=hI
  rw[hK]
  exact Rn.pure ⟨_,rfl,rfl⟩
 clear hK K
 obtain⟨x1,x2,x3,x4,x5,x6,x7,x8,x9,x10,x11,rfl⟩:=hI
 obtain⟨k,hk,rfl⟩:∃k:Nat,k<m∧d=nD k:=by
  have h1:=(List.getElem?_eq_some_iff.mp hj).1
  have:j<m:=by simpa using h1
  refine⟨j,this,?_⟩
  rw[List.getElem?_map,List.getElem?_range this] at hj
  exact (Option.some.inj hj).symm
 clear hj hm em rg st
 generalize 0+j+1=nx
 rw[nZ,au]
 obtain⟨c,ec⟩:=Cw cs k
 obtain⟨v,ev⟩:=Ed c
 -- the pot
 refine aM fun K hK=>?_
 simp[ec,ev]
 refine Rn.cH (by simp) ?_
 have hp0:cG M.length (M++[.lst [nD v]]):=⟨v,by simp⟩
 revert hp0
 generalize M.length=p
 generalize M++[.lst [nD v]]=M0
 intro hp0
 rw[hK];clear hK K ec ev
 -- two walks
 refine aM fun K hK=>?_
 simp
 refine Rn.bind (uL (tp:=6) hp0 (by decide) (by decide)) fun d1 M1 ⟨R,W,e1,w,lR,hW,hp1,_⟩=>?_
 subst e1
 refine Rn.bind (uL (tp:=6) hp1 (by decide) (by decide)) fun d2 M2 ⟨R2,W2,e2,w2,lR2,hW2,hp2,_⟩=>?_
 subst e2
 try simp
 rw[hK];clear hK K
 have h1:=w.n1
 -- a place,a row
 refine aM fun K hK=>?_
 simp[lJ]
 refine Rn.bind (cj (far:=(R.length:Int)) hp2 (by omega) (by omega)) fun d3 M3 ⟨at_,g3,e3,hp3,_⟩=>?_
 subst e3
 refine Rn.bind (cj (far:=(R.length:Int)) hp3 (by omega) (by omega)) fun d4 M4 ⟨t4,g4,e4,hp4,_⟩=>?_
 subst e4
 have lt4:t4<R.length:=by omega
 have lat:at_<R.length:=by omega
 have ixr:=vN (R:=R) lt4
 rw[ixr,au]
 have ls:∀l M,gj [nT l] M=some (l.map nD):=fun l M=>rfl
 have grm:=gr_mem lt4
 have rl4:=w.row _ grm
 refine Rn.bindRd _ (ls _ _) ?_
 refine Rn.cH (by simp;omega) ?_
 try simp only[dN,au]
 rw[hK];clear hK K
 have q4:(M4++[DO.lst ((gr R t4).map nD)])[M4.length]?=some (.lst ((gr R t4).map nD)):=by simp
 have hp5:cG p (M4++[DO.lst ((gr R t4).map nD)]):=hp4.sb (q:=M4.length) Sb.push (by have:=hp4.lt;omega)
 have npq:M4.length≠p:=by have:=hp4.lt;omega
 revert q4 hp5 npq
 generalize (M4++[DO.lst ((gr R t4).map nD)])=M5
 generalize M4.length=q
 intro q4 hp5 npq
 -- one more in it
 refine aM fun K hK=>?_
 have ln:jK [.ref q] M5=some (nD R.length):=by
  show (aQ (.ref q) M5).map _=_
  simp only[aQ,q4];simp[nD,rl4]
 simp
 refine Rn.bindRd _ ln ?_
 refine Rn.bind (cj (far:=(R.length:Int)) hp5 (by omega) (by omega)) fun d5 M6 ⟨t5,g5,e5,hp6,s6⟩=>?_
 subst e5
 rw[hK];clear hK K
 have q6:=s6.at npq q4
 have lt5:t5<(gr R t4).length:=by omega
 refine aM fun K hK=>?_
 simp
 refine Rn.bindRd (nD (gr R t4)[t5]) (xx q6 (by rw[List.getElem?_map,List.getElem?_eq_getElem lt5];rfl)) ?_
 have ad1:(rd (b7 (nD (gr R t4)[t5]) (.int 1)):DM D)=pure (nD ((gr R t4)[t5]+1)):=aX fun M=>rfl
 rw[ad1,au]
 refine Rn.run (mJ q6 (v:=nD ((gr R t4)[t5]+1)) (i:=t5) (by simpa using lt5)) ?_
 rw[hK];clear hK K
 rw[←List.map_set]
 have q7:(M6.set q (DO.lst (((gr R t4).set t5 ((gr R t4)[t5]+1)).map nD)))[q]?=some (.lst (((gr R t4).set t5 ((gr R t4)[t5]+1)).map nD)):=by
  rw[List.getElem?_set_self (List.getElem?_eq_some_iff.mp q6).1]
 have hp7:cG p (M6.set q (DO.lst (((gr R t4).set t5 ((gr R t4)[t5]+1)).map nD))):=hp6.sb (q:=q) Sb.set (Ne.symm npq)
 have hrow:Hr (nT ((gr R t4).set t5 ((gr R t4)[t5]+1))):=(ji (by rw[List.length_set];omega) (fun i hi=>by
  rcases List.mem_or_eq_of_mem_set hi with k | k
  ·have:=w.le grm k;omega
  ·have:=w.le grm (List.getElem_mem lt5);omega)).1
 revert q7 hp7 hrow
 generalize (gr R t4).set t5 ((gr R t4)[t5]+1)=row
 intro q7 hp7 hrow
 generalize M6.set q (DO.lst (row.map nD))=M7 at q7 hp7
 have hR:∀x∈R.map nT,Hr x:=fun x hx=>by
  obtain⟨r,hr,rfl⟩:=List.mem_map.mp hx
  exact (ji (by rw[w.row r hr];omega) (fun i hi=>by have:=w.le hr hi;omega)).1
 have hR2:∀x∈R2.map nT,Hr x:=fun x hx=>by
  obtain⟨r,hr,rfl⟩:=List.mem_map.mp hx
  exact (ji (by rw[w2.row r hr];omega) (fun i hi=>by have:=w2.le hr hi;omega)).1
 have lm:(R.map nT).length≤6:=by rw[List.length_map];exact lR
 have sl:∀a b,(rd (ir a b (nM R)):DM D)=pure (.tup (cutD (R.map nT) a b)):=fun a b=>aX fun M=>rfl
 have aI:∀i:Int,ul (.int i)=pure (some i):=fun i=>rfl
 have aN:∀i:Nat,ul (nD i)=pure (some (i:Int)):=fun i=>rfl
 have mt1:∀x:D,gf [x]=pure (.tup [x]):=fun x=>dD (by simp)
 have mt2:∀x y:D,gf [x,y]=pure (.tup [x,y]):=fun x y=>dD (by simp)
 have mt0:gf []=pure (.tup []):=dD (by simp)
 have cl:∀a b,(cutD (R.map nT) a b).length≤6:=fun a b=>Nat.le_trans Ax lm
 have A1:∀a b x,(rd (b7 (.tup (cutD (R.map nT) a b)) (.tup [x])):DM D)=pure (.tup (cutD (R.map nT) a b++[x])):=fun a b x=>tW (by have:=cl a b;simp;omega)
 have A2:∀a b c e x,(rd (b7 (.tup (cutD (R.map nT) a b++[x])) (.tup (cutD (R.map nT) c e))):DM D)=pure (.tup (cutD (R.map nT) a b++[x]++cutD (R.map nT) c e)):=fun a b c e x=>tW (by have:=cl a b;have:=cl c e;simp;omega)
 have A3:∀a b,(rd (b7 (nM R) (.tup (cutD (R.map nT) a b))):DM D)=pure (.tup (R.map nT++cutD (R.map nT) a b)):=fun a b=>tW (by have:=cl a b;omega)
 have tq:jx [.ref q] M7=some (nT row):=by show (aQ (.ref q) M7).map _=_;simp only[aQ,q7];rfl
 have adN:(rd (b7 (nD at_) (.int 1)):DM D)=pure (.int ((at_:Int)+1)):=aX fun M=>rfl
 have ld:(rd (fun M=>Option.map D.lst (gj [nM R] M)):DM D)=pure (.lst (R.map nT)):=aX fun M=>rfl
 -- the things
 refine aM fun K hK=>?_
 simp only[dN,bW,aU,aF,sl,aI,aN]
 refine Rn.bindRd _ tq ?_
 simp only[au,mt1,A1,adN,aI,sl,A2,vO,A3,ld,mt0]
 have mk7:∀a b c d e f g:D,dH [a,b,c,d,e,f,g]=pure (.lst [a,b,c,d,e,f,g]):=fun a b c d e f g=>cz (by simp)
 rw[mk7,au,hK];clear hK K mk7
 have hcut:∀a b,∀x∈cutD (R.map nT) a b,Hr x:=fun a b x hx=>hR x (Ay hx)
 have h3:∀a b c e x,Hr x->Hg (.tup (cutD (R.map nT) a b++[x]++cutD (R.map nT) c e)):=fun a b c e x hx=>cg (fun y hy=>by
  rcases List.mem_append.mp hy with hy | hy
  ·rcases List.mem_append.mp hy with hy | hy
   ·exact hcut a b y hy
   ·rw[List.mem_singleton.mp hy];exact hx
  ·exact hcut c e y hy) (by have:=cl a b;have:=cl c e;simp;omega)
 have hgR:Hg (nM R):=cg hR (by omega)
 have t1:∀ x∈[nM R,nM R2,.tup (cutD (R.map nT) none (some (at_:Int))++[nT row]++cutD (R.map nT) (some ((at_:Int) + 1)) none),.tup (cutD (R.map nT) none (some (-1))),.tup (R.map nT++cutD (R.map nT) none (some 1)),.lst (R.map nT),.tup []],Hg x:=fun x hx=>by
  simp only[List.mem_cons,List.not_mem_nil,or_false] at hx
  rcases hx with rfl | rfl | rfl | rfl | rfl | rfl | rfl
  ·exact hgR
  ·exact cg hR2 (by simp;omega)
  ·exact h3 _ _ _ _ _ hrow
  ·exact cg (hcut _ _) (by have:=cl none (some (-1));omega)
  ·exact cg (fun y hy=>by
    rcases List.mem_append.mp hy with hy | hy
    ·exact hR y hy
    ·exact hcut _ _ y hy) (by have:=cl none (some 1);simp;omega)
  ·exact Dc hR (by omega)
  ·exact cg (fun _ h=>by cases h) (by simp)
 have n1:[nM R,nM R2,.tup (cutD (R.map nT) none (some (at_:Int))++[nT row]++cutD (R.map nT) (some ((at_:Int)+1)) none),.tup (cutD (R.map nT) none (some (-1))),.tup (R.map nT++cutD (R.map nT) none (some 1)),.lst (R.map nT),.tup []].length=7:=rfl
 revert t1 n1
 generalize [nM R,nM R2,.tup (cutD (R.map nT) none (some (at_:Int))++[nT row]++cutD (R.map nT) (some ((at_:Int)+1)) none),.tup (cutD (R.map nT) none (some (-1))),.tup (R.map nT++cutD (R.map nT) none (some 1)),.lst (R.map nT),.tup []]=T1
 intro t1 n1
 have app:∀{a b:List D},(∀x∈a,Hg x)->(∀x∈b,Hg x)->∀x∈a++b,Hg x:=fun ha hb x hx=>by
  rcases List.mem_append.mp hx with hx | hx
  ·exact ha x hx
  ·exact hb x hx
 have addL:∀{a b:List D},a.length+b.length≤1000->(rd (b7 (.lst a) (.lst b)):DM D)=pure (.lst (a++b)):=fun {a b} h=>aX fun M=>by
  show zB (a++b)=_
  have:dg (a++b)=true:=by unfold dg;exact decide_eq_true (by show _≤2^24;rw[List.length_append];omega)
  unfold zB
  rw[if_pos this]
 have ixa:=vN (R:=R) lat
 have ix0:=ju (R:=R) (by omega)
 have lda:∀l:List Nat,(rd (fun M=>Option.map D.lst (gj [nT l] M)):DM D)=pure (.lst (l.map nD)):=fun l=>aX fun M=>rfl
 have mk4:∀a b c d:D,dH [a,b,c,d]=pure (.lst [a,b,c,d]):=fun a b c d=>cz (by simp)
 have mk2:∀a b:D,dH [a,b]=pure (.lst [a,b]):=fun a b=>cz (by simp)
 have mk3:∀a b c:D,dH [a,b,c]=pure (.lst [a,b,c]):=fun a b c=>cz (by simp)
 have mk5:∀a b c d e:D,dH [a,b,c,d,e]=pure (.lst [a,b,c,d,e]):=fun a b c d e=>cz (by simp)
 have hi:∀r:List Int,r.length≤26->(∀i∈r,i.natAbs≤10^11)->Hr (.tup (r.map D.int)):=fun r hl hb=>(uz hl (fun i hi=>Nat.le_trans (hb i hi) (by decide))).1
 -- four more
 refine aM fun K hK=>?_
 simp only[dN,bW,aU,aF,sl,aI,aN,ixa,lda,mt1,mt2,A1,adN,A2,mk4]
 rw[addL (by simp;omega),au,hK];clear hK K
 have t2:=app t1 (b:=[.tup (cutD (R.map nT) none (some (at_:Int))++[.lst ((gr R at_).map nD)]++cutD (R.map nT) (some ((at_:Int)+1)) none),.tup [.tup [.int 0]],.tup [.tup [.int 1]],.tup [.tup [.int 0,.int 0],.tup [.int 0,.int 0]]]) (fun x hx=>by
  simp only[List.mem_cons,List.not_mem_nil,or_false] at hx
  rcases hx with rfl | rfl | rfl | rfl
  ·refine h3 _ _ _ _ _ (ji (by rw[w.row _ (gr_mem lat)];omega) (fun i hi=>by have:=w.le (gr_mem lat) hi;omega)).2
  ·exact cg (fun y hy=>by rw[List.mem_singleton.mp hy];exact hi [0] (by simp) (by simp)) (by simp)
  ·exact cg (fun y hy=>by rw[List.mem_singleton.mp hy];exact hi [1] (by simp) (by simp)) (by simp)
  ·exact cg (fun y hy=>by simp at hy;rw[hy];exact hi [0,0] (by simp) (by simp)) (by simp))
 have n2:=congrArg (·+ 4) n1
 generalize hT2:T1++[.tup (cutD (R.map nT) none (some (at_:Int))++[.lst ((gr R at_).map nD)]++cutD (R.map nT) (some ((at_:Int)+1)) none),.tup [.tup [.int 0]],.tup [.tup [.int 1]],.tup [.tup [.int 0,.int 0],.tup [.int 0,.int 0]]]=T2 at t2
 have n2:T2.length=11:=by rw[←hT2,List.length_append,n1];rfl
 clear hT2
 -- two more
 refine aM fun K hK=>?_
 simp only[dN,bW,aU,aF,ix0,mk2]
 rw[addL (by simp;omega),au,hK];clear hK K
 have t3:=app t2 (b:=[nT (gr R 0),.non]) (fun x hx=>by
  simp only[List.mem_cons,List.not_mem_nil,or_false] at hx
  rcases hx with rfl | rfl
  ·have:=hR (nT (gr R 0)) (List.mem_map.mpr ⟨_,w.head,rfl⟩)
   exact⟨this.1.mono (Nat.le_refl _) (by decide),by have:=this.2;omega⟩
  ·exact⟨.non,by simp[wt]⟩)
 generalize hT3:T2++[nT (gr R 0),D.non]=T3 at t3
 have n3:T3.length=13:=by rw[←hT3,List.length_append,n2];rfl
 clear hT3
 -- three more
 have aTn:∀l:List Nat,oK (nT l)=some (.fix (l.map nD)):=fun l=>rfl
 have aTM:oK (nM R)=some (.fix (R.map nT)):=rfl
 have m3:∀n:Nat,(rd (fX (.int 3) (nD n)):DM D)=pure (nD (3*n)):=fun n=>by
  show (rd (fX (nD 3) (nD n)):DM D)=_
  exact Er (by decide)
 have ci:=fun (r:List Nat) (hr:r∈R)=>jE (x:=none) (rest:=[]) (as:=r) (fe:=fun δ=>opt δ[0]?.join>>=fun y=>rd (fX (.int 3) y)) nD (fun n=>nD (3*n)) (by rw[w.row r hr];omega) (fun n hn=>by
  simp only[List.getElem?_cons_zero,Option.join_some,cU,au,m3])
 have co:=jE (x:=none) (rest:=[]) (as:=R) (fe:=fun δ=>opt δ[0]?.join>>=fun a=>opt (oK a)>>=fun a=>cN (cI (gN 0) (fun x=>pure true) (bR fun δ=>opt δ[0]?.join>>=fun y=>rd (fX (.int 3) y)) a [none] [])>>=fun a=>Out.val.run a.snd>>=fun a=>rd (jx [a])) nT (fun r=>nT (r.map fun n=>3*n)) (by omega) (fun r hr=>by
  simp only[List.getElem?_cons_zero,Option.join_some,cU,au,aTn]
  show (cN (bA _ _ _ _ _ _)>>=_)=_
  rw[ci r hr,au]
  simp only[lM,au,yx]
  unfold nT
  rw[List.map_map];rfl)
 refine aM fun K hK=>?_
 simp only[dN,bW,aU,aF,mt1,mt2,vO,aTM,aZ,cJ,List.map_nil,List.length_cons,List.length_nil,List.replicate_succ,List.replicate_zero,List.cons_append,List.nil_append]
 show Rn (cN (bA _ _ _ _ _ _)>>=_) M7 _
 simp only[aF] at co ⊢
 rw[co,au]
 simp only[lM,au,yx,mk3]
 rw[addL (by simp;omega),au,hK];clear hK K
 have t4':=app t3 (b:=[.tup [.tup [.bl true]],.tup [.tup [.int 2,.int (-1)],.tup [.int 0,.int 1]],.tup (R.map fun r=>nT (r.map fun n=>3 * n))]) (fun x hx=>by
  simp only[List.mem_cons,List.not_mem_nil,or_false] at hx
  rcases hx with rfl | rfl | rfl
  ·exact cg (fun y hy=>by
    rw[List.mem_singleton.mp hy]
    exact⟨.tup fun z hz=>(by rw[List.mem_singleton.mp hz];exact .bl _),by simp[wt,aV]⟩) (by simp)
  ·exact cg (fun y hy=>by
    simp only[List.mem_cons,List.not_mem_nil,or_false] at hy
    rcases hy with rfl | rfl
    ·exact hi [2,-1] (by simp) (by simp)
    ·exact hi [0,1] (by simp) (by simp)) (by simp)
  ·exact cg (fun y hy=>by
    obtain⟨r,hr,rfl⟩:=List.mem_map.mp hy
    exact (ji (by rw[List.length_map,w.row r hr];omega) (fun i hi=>by
     obtain⟨n,hn,rfl⟩:=List.mem_map.mp hi
     have:=w.le hr hn;omega)).1) (by simp;omega))
 generalize hT4:T3++[.tup [.tup [.bl true]],.tup [.tup [.int 2,.int (-1)],.tup [.int 0,.int 1]],.tup (R.map fun r=>nT (r.map fun n=>3*n))]=T4 at t4'
 have n4:T4.length=16:=by rw[←hT4,List.length_append,n3];rfl
 clear hT4
 -- five more
 refine aM fun K hK=>?_
 have r25:∀x:D,(rd (vK (.tup [x]) (.int 25)):DM D)=pure (.tup (List.replicate 25 x)):=fun x=>aX fun M=>rfl
 have r26:∀x:D,(rd (vK (.tup [x]) (.int 26)):DM D)=pure (.tup (List.replicate 26 x)):=fun x=>aX fun M=>rfl
 have pw:(rd (qi (.int 10) (.int 11)):DM D)=pure (.int 100000000000):=by rw[rA (by decide)];rfl
 simp only[dN,bW,aU,aF,mt1,mt2]
 simp only[r25,r26,au,mt1]
 refine Rn.bind (pA hp7) fun o1 M8 ⟨⟨go,wo⟩,hp8,s8⟩=>?_
 simp only[pw,au,mt1,mt2,mk5]
 have h25:∀n:Nat,n≤26->Hg (.tup (List.replicate n (.tup (List.replicate n (.int 1))))):=fun n hn=>cg (fun y hy=>by
  rw[List.eq_of_mem_replicate hy]
  have:=hi (List.replicate n 1) (by simpa using hn) (fun i hx=>by rw[List.eq_of_mem_replicate hx];decide)
  rw[List.map_replicate] at this
  exact this) (by simpa using hn)
 have t5':=app t4' (b:=[.tup (List.replicate 25 (.tup (List.replicate 25 (.int 1)))),.tup (List.replicate 26 (.tup (List.replicate 26 (.int 1)))),o1,.tup [.tup [.int 100000000000]],.tup [.tup [.int 1,.int 0],.tup [.int 0,.int 2]]]) (fun x hx=>by
  rcases List.mem_cons.mp hx with rfl | hx
  ·exact h25 25 (by decide)
  rcases List.mem_cons.mp hx with rfl | hx
  ·exact h25 26 (by decide)
  simp only[List.mem_cons,List.not_mem_nil,or_false] at hx
  rcases hx with rfl | rfl | rfl
  ·exact⟨go.mono (by decide) (by decide),by omega⟩
  ·exact cg (fun y hy=>by rw[List.mem_singleton.mp hy];exact hi [100000000000] (by simp) (by simp)) (by simp)
  ·exact cg (fun y hy=>by
    simp only[List.mem_cons,List.not_mem_nil,or_false] at hy
    rcases hy with rfl | rfl
    ·exact hi [1,0] (by simp) (by simp)
    ·exact hi [0,2] (by simp) (by simp)) (by simp))
 have aR:∀a b:List D,Cm (.lst a) (.lst b)=cH (a++b):=fun a b=>rfl
 rw[aR]
 refine Rn.cH (by simp;omega) ?_
 rw[hK];clear hK K
 have n5:(T4++[.tup (List.replicate 25 (.tup (List.replicate 25 (.int 1)))),.tup (List.replicate 26 (.tup (List.replicate 26 (.int 1)))),o1,.tup [.tup [.int 100000000000]],.tup [.tup [.int 1,.int 0],.tup [.int 0,.int 2]]]).length=21:=by rw[List.length_append,n4];rfl
 revert t5' n5
 generalize T4++[.tup (List.replicate 25 (.tup (List.replicate 25 (.int 1)))),.tup (List.replicate 26 (.tup (List.replicate 26 (.int 1)))),o1,.tup [.tup [.int 100000000000]],.tup [.tup [.int 1,.int 0],.tup [.int 0,.int 2]]]=T5
 intro t5' n5
 have q9:(M8++[DO.lst T5])[M8.length]?=some (.lst T5):=by simp
 have hp9:cG p (M8++[DO.lst T5]):=hp8.sb (q:=M8.length) Sb.push (by have:=hp8.lt;omega)
 have np9:M8.length≠p:=by have:=hp8.lt;omega
 revert q9 hp9 np9
 generalize (M8++[DO.lst T5])=M9
 generalize M8.length=qt
 intro q9 hp9 np9
 -- bent ones
 refine aM fun K hK=>?_
 have rg4:lN [.int 4]=some (.fix ((List.range 4).map nD)):=yu (n:=4) (by decide)
 simp only[dN,bW,aU,aF,rg4,fF]
 have gR:Gd (2^60) 2 (nM R):=.tup fun x hx=>by
  obtain⟨r,hr,rfl⟩:=List.mem_map.mp hx
  exact .tup fun y hy=>by
   obtain⟨n,hn,rfl⟩:=List.mem_map.mp hy
   exact .int (by have:=w.le hr hn;rw[Int.natAbs_natCast];omega)
 refine Rn.bind (gM (HH [some (.scr cs),some (nD k),some (.ref p),some (nM R),some (nM R2),some (nD at_),some (.ref q),some (nD t5)] p qt) _ 0 _ _ ⟨⟨_,_,_,rfl⟩,⟨T5,q9,by omega,t5'⟩,hp9⟩ (fun j d δ N1 hj hI=>?_)) (fun r N1 hI=>?_)
 ·obtain⟨⟨y9,y10,y11,rfl⟩,⟨L,hL,lL,gL⟩,hq⟩:=hI
  have jl:j<4:=by have:=(List.getElem?_eq_some_iff.mp hj).1;simpa using this
  rw[nZ,au]
  simp only[dN,bW,List.cons_append,List.nil_append,aU,aF]
  refine Rn.bindRd L (by simp only[aQ,hL]) ?_
  refine Rn.bind (Cu 8 (n:=2) (c:=50001) (by decide) gR hq (by have:=lY hR;unfold nM;simp only[wt];omega) (fun l hl x hx=>by cases hl;exact (hR x hx).2)) fun b1 N2 ⟨⟨g1,w1⟩,hq2,s2⟩=>?_
  have hL2:=s2.at np9 hL
  refine Rn.run (uh hL2 (by omega)) (Rn.pure ⟨_,rfl,⟨_,_,_,rfl⟩,⟨L++[b1],?_,by simp;omega,app gL (fun x hx=>?_)⟩,hq2.sb (q:=qt) Sb.set (Ne.symm np9)⟩)
  ·rw[List.getElem?_set_self (List.getElem?_eq_some_iff.mp hL2).1]
  ·rw[List.mem_singleton.mp hx]
   exact⟨g1.mono (by decide) (by decide),by have:=lY hR;unfold nM at w1;simp only[wt] at w1;omega⟩
 obtain⟨δ',rfl,⟨y9,y10,y11,rfl⟩,⟨L,hL,lL,gL⟩,hq⟩:=hI
 rw[hK];clear hK K
 -- all are right
 refine aM fun K hK=>?_
 simp only[bW,List.cons_append,List.nil_append,aU,aF,aZ,cJ,List.map_nil,List.length_cons,List.length_nil,List.replicate_succ,List.replicate_zero]
 have hL':N1[qt]?=some (.lst (L.map id)):=by rw[List.map_id];exact hL
 have flr:∀x∈L,rG [x]=pure (.bl true):=fun x hx=>Dn (gL x hx).1 (by decide) (by decide) (gL x hx).2
 have tr:(rd (iM [.lst (List.replicate L.length (.bl true))]):DM D)=pure (.bl true):=nq _
 refine zm (L:=L) (fun _=>true) id (fun _=>.bl true) hL' (by rw[List.length_map,List.length_range] at lL;omega) (fun x hx=>rfl) (fun x hx=>?_) (fun l=>rd (iM [.lst l])>>=fun a=>rd (lW a)>>=fun a=>(if (!a)=true then pure (Fl.rt (D.bl false)) else pure (Fl.nx [some (.scr cs),some (nD k),some (.ref p),some (nM R),some (nM R2),some (nD at_),some (.ref q),some (nD t5),some (.ref qt),y9,y10,y11]))>>=K) (fun _=>rfl) ?_
 ·simp only[List.getElem?_cons_zero,Option.join_some,cU,au,id,flr x hx];rfl
 rw[List.filter_eq_self.mpr (fun _ _=>rfl),lD,tr]
 simp only[au,tO,Bool.not_true,Bool.false_eq_true,if_false]
 rw[hK];clear hK K
 -- alike where the rows are alike
 refine aM fun K hK=>?_
 simp[tX w,tX w2]
 rw[hK];clear hK K
 have q1:=w6 (R:=R) (R':=R2) (W:=W) (W':=W2) (by omega)
 have q2:=xM (R:=R) (R':=R2) (W:=W) (W':=W2) (by omega)
 have q3:=GZ R R2 (by omega)
 have q4:=wZ R R2 (by omega)
 have nb:∀β:Bool,(rd (cR (.bl β) (.bl β)):DM D)=pure (.bl false):=fun β=>by cases β<;>exact aX fun M=>rfl
 simp only[dN,bW,aU,aF,q1,q2,q3,q4,nb,cL,Bool.false_eq_true,if_false]
 exact Rn.pure ⟨_,rfl,_,_,_,_,_,_,_,_,_,_,_,rfl⟩
def xP(K:PySem.W.Frag):Bool:=K.all fun p=>!(p.2.cls==.type "list")
theorem Dw {K:PySem.W.Frag} (h:xP K=true) {a:Addr}{o:Obj} (e:K.lookup a=some o):o.cls≠.type "list":=by
 have:∀ (l:List (Addr×Obj)),(l.all fun p=>!(p.2.cls == .type "list"))=true->l.lookup a=some o->o.cls≠.type "list":=by
  intro l
  induction l with
  |nil=>intro _ e;cases e
  | cons p l ih=>
    intro h e
    rw[List.all_cons,Bool.and_eq_true] at h
    rw[List.lookup_cons] at e
    split at e
    ·cases e
     intro z
     rw[z] at h
     exact absurd h.1 (by decide)
    ·exact ih h.2 e
 exact this K h e
theorem rd_of{K:PySem.W.Frag}{H:Hp}{a:Addr}{xs:List V}(h:xP K=true)(s:SqL K H a xs):Rd H a (.lst xs):=by
 rcases s with s | ⟨o,its,n,e,c,_⟩
 ·exact s
 ·exact absurd c (Dw h e)
structure Cls(K:PySem.W.Frag)(mg:Str->Option Value)(CE_BadWalk CE_NoLot CE_NoWalk CE0 CC_Walk:Addr)(tg_MOST_PLACES:Tok):Prop where
 t:XTab K mg pP CE0
 m_FadeError:mg "FadeError"=some (.ref CE0)
 m_BadWalk:mg "BadWalk"=some (.ref CE_BadWalk)
 m_NoLot:mg "NoLot"=some (.ref CE_NoLot)
 m_NoWalk:mg "NoWalk"=some (.ref CE_NoWalk)
 m_MOST_PLACES:mg "MOST_PLACES"=some (.int 25 tg_MOST_PLACES)
 o_Walk:OCls K mg "Walk" CC_Walk ["rows", "whole"]
 k_Walk:PySem.W.makesIn K CC_Walk=true∧PySem.W.keepIn K (.ref CC_Walk)=true
 q_Walk:OwnC K mg "Walk"
 nl:xP K=true
theorem Cy{K:PySem.W.Frag}{h:Heap}{mg:Str->Option Value}(X:K.In h)(G:h.Ns mainGlobals mg){CE_BadWalk CE_NoLot CE_NoWalk CE0 CC_Walk:Addr}{tg_MOST_PLACES:Tok}
  (cE0:PySem.W.nsIn K mainGlobals "FadeError"=some (some (.ref CE0)))
  (c_BadWalk:PySem.W.nsIn K mainGlobals "BadWalk"=some (some (.ref CE_BadWalk)))
  (c_NoLot:PySem.W.nsIn K mainGlobals "NoLot"=some (some (.ref CE_NoLot)))
  (c_NoWalk:PySem.W.nsIn K mainGlobals "NoWalk"=some (some (.ref CE_NoWalk)))
  (eE0:PySem.W.excIn K CE0 lX "ValueError.__new__"=true)
  (e_BadWalk:PySem.W.excIn K CE_BadWalk lX "ValueError.__new__"=true)
  (s_BadWalk:PySem.W.mroIn K CE_BadWalk (.ref CE0)=some true)
  (x1_BadWalk:PySem.W.findIn K (.ref CE_BadWalk) "__getattribute__"=some (some (.builtin "BaseException.__getattribute__")))
  (x2_BadWalk:PySem.W.findIn K (.ref CE_BadWalk) "__getattr__"=some none)
  (x3_BadWalk:PySem.W.findIn K (.ref CE_BadWalk) "__class__"=some (some (.builtin "object.__class__")))
  (x4_BadWalk:PySem.W.mroIn K CE_BadWalk (.type "object")=some true)
  (x5_BadWalk:PySem.W.mroIn K CE_BadWalk (.type "BaseException")=some true)
  (e_NoLot:PySem.W.excIn K CE_NoLot lX "ValueError.__new__"=true)
  (s_NoLot:PySem.W.mroIn K CE_NoLot (.ref CE0)=some true)
  (x1_NoLot:PySem.W.findIn K (.ref CE_NoLot) "__getattribute__"=some (some (.builtin "BaseException.__getattribute__")))
  (x2_NoLot:PySem.W.findIn K (.ref CE_NoLot) "__getattr__"=some none)
  (x3_NoLot:PySem.W.findIn K (.ref CE_NoLot) "__class__"=some (some (.builtin "object.__class__")))
  (x4_NoLot:PySem.W.mroIn K CE_NoLot (.type "object")=some true)
  (x5_NoLot:PySem.W.mroIn K CE_NoLot (.type "BaseException")=some true)
  (e_NoWalk:PySem.W.excIn K CE_NoWalk lX "ValueError.__new__"=true)
  (s_NoWalk:PySem.W.mroIn K CE_NoWalk (.ref CE0)=some true)
  (x1_NoWalk:PySem.W.findIn K (.ref CE_NoWalk) "__getattribute__"=some (some (.builtin "BaseException.__getattribute__")))
  (x2_NoWalk:PySem.W.findIn K (.ref CE_NoWalk) "__getattr__"=some none)
  (x3_NoWalk:PySem.W.findIn K (.ref CE_NoWalk) "__class__"=some (some (.builtin "object.__class__")))
  (x4_NoWalk:PySem.W.mroIn K CE_NoWalk (.type "object")=some true)
  (x5_NoWalk:PySem.W.mroIn K CE_NoWalk (.type "BaseException")=some true)
  (v_BadWalk_BadWalk:PySem.W.kitOne K (.ref CE_BadWalk) (.ref CE_BadWalk)=some true)
  (v_BadWalk_NoLot:PySem.W.kitOne K (.ref CE_BadWalk) (.ref CE_NoLot)=some false)
  (v_BadWalk_NoWalk:PySem.W.kitOne K (.ref CE_BadWalk) (.ref CE_NoWalk)=some false)
  (v_NoLot_BadWalk:PySem.W.kitOne K (.ref CE_NoLot) (.ref CE_BadWalk)=some false)
  (v_NoLot_NoLot:PySem.W.kitOne K (.ref CE_NoLot) (.ref CE_NoLot)=some true)
  (v_NoLot_NoWalk:PySem.W.kitOne K (.ref CE_NoLot) (.ref CE_NoWalk)=some false)
  (v_NoWalk_BadWalk:PySem.W.kitOne K (.ref CE_NoWalk) (.ref CE_BadWalk)=some false)
  (v_NoWalk_NoLot:PySem.W.kitOne K (.ref CE_NoWalk) (.ref CE_NoLot)=some false)
  (v_NoWalk_NoWalk:PySem.W.kitOne K (.ref CE_NoWalk) (.ref CE_NoWalk)=some true)
  (g_MOST_PLACES:PySem.W.nsIn K mainGlobals "MOST_PLACES"=some (some (.int 25 tg_MOST_PLACES)))
  (cm_Walk:PySem.W.nsIn K mainGlobals "Walk"=some (some (.ref CC_Walk)))
  (pg_Walk:PySem.W.plainGet K CC_Walk Str.empty=true)
  (hd_Walk:PySem.W.hasDictIn K CC_Walk=true)
  (po_Walk:PySem.W.plainOver K CC_Walk=true)
  (sa_Walk:PySem.W.findIn K (.ref CC_Walk) "__setattr__"=some (some (.builtin "object.__setattr__")))
  (mk_Walk:PySem.W.makesIn K CC_Walk=true)
  (kc_Walk:PySem.W.keepIn K (.ref CC_Walk)=true)
  (qn_Walk:PySem.W.findIn K (.ref CC_Walk) "__ne__"=some (some (.builtin "object.__ne__")))
  (qm_Walk:PySem.W.mroIn K CC_Walk (.type "object")=some true)
  (qc_Walk:PySem.W.findIn K (.ref CC_Walk) "__class__"=some (some (.builtin "object.__class__")))
  (qg_Walk:PySem.W.specialIn K (.builtin "object.__class__") "__get__"=some (some (.builtin "getset_descriptor.__get__")))
  (qt_Walk:PySem.W.takesIn K (.builtin "object.__class__")=some true)
  (qi_Walk:((PySem.W.clsIn K CC_Walk).isSome&&PySem.W.typeIn K (.ref CC_Walk)==some (.type "type"))=true)
  (nf_Walk_rows:PySem.W.findIn K (.ref CC_Walk) "rows"=some none)
  (nf_Walk_whole:PySem.W.findIn K (.ref CC_Walk) "whole"=some none)
  (nl:xP K=true)
  : Cls K mg CE_BadWalk CE_NoLot CE_NoWalk CE0 CC_Walk tg_MOST_PLACES:=by
 have m_BadWalk:=PySem.W.mg_of X G c_BadWalk
 have m_NoLot:=PySem.W.mg_of X G c_NoLot
 have m_NoWalk:=PySem.W.mg_of X G c_NoWalk
 have nof_Walk:∀f∈(["rows", "whole"]:List Str),NoAttr K CC_Walk f:=by
  intro f hf
  simp only[List.mem_cons,List.not_mem_nil,or_false] at hf
  rcases hf with rfl | rfl
  ·exact nf_Walk_rows
  ·exact nf_Walk_whole
 refine⟨⟨fun a ha=>?_,fun a ha b hb C D hC hD=>?_⟩,PySem.W.mg_of X G cE0,m_BadWalk,m_NoLot,m_NoWalk,PySem.W.mg_of X G g_MOST_PLACES,⟨PySem.W.mg_of X G cm_Walk,⟨pg_Walk,hd_Walk,po_Walk,sa_Walk⟩,nof_Walk⟩,⟨mk_Walk,kc_Walk⟩,⟨CC_Walk,PySem.W.mg_of X G cm_Walk,qn_Walk,qm_Walk,qc_Walk,qg_Walk,qt_Walk,qi_Walk,⟨pg_Walk,hd_Walk,po_Walk,sa_Walk⟩⟩,nl⟩
 ·simp only[List.mem_cons,List.not_mem_nil,or_false] at ha
  rcases ha with rfl | rfl | rfl
  ·exact⟨CE_BadWalk,⟨m_BadWalk,e_BadWalk⟩,⟨x1_BadWalk,x2_BadWalk,x3_BadWalk,x4_BadWalk,x5_BadWalk⟩,⟨e_BadWalk,eE0,s_BadWalk⟩⟩
  ·exact⟨CE_NoLot,⟨m_NoLot,e_NoLot⟩,⟨x1_NoLot,x2_NoLot,x3_NoLot,x4_NoLot,x5_NoLot⟩,⟨e_NoLot,eE0,s_NoLot⟩⟩
  ·exact⟨CE_NoWalk,⟨m_NoWalk,e_NoWalk⟩,⟨x1_NoWalk,x2_NoWalk,x3_NoWalk,x4_NoWalk,x5_NoWalk⟩,⟨e_NoWalk,eE0,s_NoWalk⟩⟩
 ·simp only[List.mem_cons,List.not_mem_nil,or_false] at ha hb
  rcases ha with rfl | rfl | rfl<;>rcases hb with rfl | rfl | rfl
  ·rw[m_BadWalk] at hC;rw[m_BadWalk] at hD;cases hC;cases hD;exact v_BadWalk_BadWalk
  ·rw[m_BadWalk] at hC;rw[m_NoLot] at hD;cases hC;cases hD;exact v_BadWalk_NoLot
  ·rw[m_BadWalk] at hC;rw[m_NoWalk] at hD;cases hC;cases hD;exact v_BadWalk_NoWalk
  ·rw[m_NoLot] at hC;rw[m_BadWalk] at hD;cases hC;cases hD;exact v_NoLot_BadWalk
  ·rw[m_NoLot] at hC;rw[m_NoLot] at hD;cases hC;cases hD;exact v_NoLot_NoLot
  ·rw[m_NoLot] at hC;rw[m_NoWalk] at hD;cases hC;cases hD;exact v_NoLot_NoWalk
  ·rw[m_NoWalk] at hC;rw[m_BadWalk] at hD;cases hC;cases hD;exact v_NoWalk_BadWalk
  ·rw[m_NoWalk] at hC;rw[m_NoLot] at hD;cases hC;cases hD;exact v_NoWalk_NoLot
  ·rw[m_NoWalk] at hC;rw[m_NoWalk] at hD;cases hC;cases hD;exact v_NoWalk_NoWalk
def spLaw(K:PySem.W.Frag):Sp:=fun vs H Q _=>∃(a:Addr) (ns:List Int),vs=[.ref a]∧SqL K H a (ns.map V.int)∧ns.length≤63∧∀H',Q (.bl true) H'
theorem Gz{K:PySem.W.Frag}{mg:Str->Option Value}(nl:xP K=true){vs:List V}{H:Hp}{Q:VK}{E:XK}(h:spLaw K vs H Q E):pN mg yO vs H Q E:=by
 obtain⟨a,ns,rfl,hS,hl,q⟩:=h
 have rd:=rd_of nl hS
 obtain⟨d,M',e,ed⟩:=Bh ns (by omega)
 refine⟨⟨[],[]⟩,[],[.scr ns],.cons (.scr (fun z=>by rcases z with z | z<;>cases z) rd) .nil,⟨rfl,List.nodup_nil,fun n a o h=>by simp at h,fun a h=>by cases h⟩,_,e,fun ρ' H' b x j c=>?_⟩
 subst ed
 cases c
 exact q H'
theorem HR {P:Program}{w:World}{K:PySem.W.Frag}{mg:Str->Option Value}{base:Heap}{k:Nat}{x:Str}{N ps:List Str}{st:Stmt}{fb:aa->DM Fl}{f:Addr}{fd:FuncData} (F:Fun K x x st f fd) (S:FnScope N ps (defScope st))
  (hbody:∀(cdv:Value) (A:Around) (outer:List Env) (s:Shared) (H:Hp) (E:XK),Room k (A.deeper (PyProof.Rows.envOfC x (defScope st) s.heap.objs.size f cdv))->
    DSs (bK P w K mg base N x (defScope st) f cdv A outer s H E) E (defBody st) fb):FnOk P w K mg base (cM P w) (k+1) f fd ps (pN mg (aP ps.length N.length fb)):=by
 refine G3 F S (fun vs H Q E h=>?_) fun cdv A outer s H vs Q E hr h=>?_
 ·obtain⟨ρ,M,ds,c,j,g⟩:=h
  rw[c.len];exact (bu.aP g).1
 obtain⟨ρ,M,ds,c,j,g⟩:=h
 exact⟨_,(hbody cdv A outer s H E hr).h,ρ,_,M,nJ c,j,(bu.aP g).2⟩
theorem all_mk{P:Program}{w:World}{K:PySem.W.Frag}{mg:Mg}{fa:Addr}{CE_BadWalk CE_NoLot CE_NoWalk CE0 CC_Walk:Addr}{tg_MOST_PLACES:Tok}(hfa:mg "law"=some (.ref fa)){h:Heap}(X:K.In h)(G:h.Ns mainGlobals mg)(t0:TD K "is_whole" jT)(t1:TD K "are_weights" fY)(t2:TD K "are_rows" jR)(t3:TD K "can_be_walked" eQ)(t4:MethAt K CC_Walk "__init__" "Walk.__init__" eN)(t5:MethAt K CC_Walk "__len__" "Walk.__len__" dF)(t6:MethAt K CC_Walk "__eq__" "Walk.__eq__" cW)(t7:MethAt K CC_Walk "__repr__" "Walk.__repr__" du)(t8:TD K "_law_cell_at" fu)(t9:TD K "_law_pot" jP)(t10:TD K "_law_take" iW)(t11:TD K "_law_whole" g8)(t12:TD K "_law_mixed" gY)(t13:TD K "_law_odd" jO)(t14:TD K "_law_bent" fK)(t15:TD K "_law_row" jQ)(t16:TD K "_law_rows" iV)(t17:TD K "_law_made" iU)(t18:TD K "_law_are_rows" eO)(t19:TD K "_law_right" gZ)(t20:TD K "law" vV)(z0:TB K "all")(z1:TB K "bool")(z2:TB K "int")(z3:TB K "isinstance")(z4:TB K "len")(z5:TB K "list")(z6:TB K "max")(z7:TB K "min")(z8:TB K "range")(z9:TB K "repr")(z10:TB K "set")(z11:TB K "sorted")(z12:TB K "sum")(z13:TB K "tuple")(Z:Cls K mg CE_BadWalk CE_NoLot CE_NoWalk CE0 CC_Walk tg_MOST_PLACES) :
  ∃fd:FuncData,(∀(s:Shared) (v:Value),BindsTo s fd ⟨[v],[]⟩ [("_law_script",v)])∧∀base:Heap,K.In base->base.Ns mainGlobals mg->FnOk P w K mg base (cM P w) 16 fa fd ["_law_script"] (spLaw K):=by
 obtain⟨f,fd,F,m⟩:=(t20 X G).ex
 have e:=hfa.symm.trans m
 cases e
 refine⟨fd,?_,fun base _ _=>?_⟩
 ·obtain⟨oc,od,kV,doc,pm,an,cdv,ct,osl,rfl,_⟩:=F.ex
  exact fun s v=>.of_eq rfl
 have yz0:=PySem.W.mg_none_of X G z0
 have yz1:=PySem.W.mg_none_of X G z1
 have yz2:=PySem.W.mg_none_of X G z2
 have yz3:=PySem.W.mg_none_of X G z3
 have yz4:=PySem.W.mg_none_of X G z4
 have yz5:=PySem.W.mg_none_of X G z5
 have yz6:=PySem.W.mg_none_of X G z6
 have yz7:=PySem.W.mg_none_of X G z7
 have yz8:=PySem.W.mg_none_of X G z8
 have yz9:=PySem.W.mg_none_of X G z9
 have yz10:=PySem.W.mg_none_of X G z10
 have yz11:=PySem.W.mg_none_of X G z11
 have yz12:=PySem.W.mg_none_of X G z12
 have yz13:=PySem.W.mg_none_of X G z13
 have D0:DefD P w K mg base _ _ _ mO:=okd (t0 X G) ue ((pI).2 yz1 yz2 yz3)
 have D1:DefD P w K mg base _ _ _ kO:=okd (t1 X G) qu ((j9 mO).2 D0 yz0 yz3 yz4 yz13)
 have D2:DefD P w K mg base _ _ _ mL:=okd (t2 X G) ud ((pH kO).2 D1 yz0 yz3 yz4 yz13)
 have D3:DefD P w K mg base _ _ _ gG:=okd (t3 X G) ik ((iJ mL).2 D2 Z.m_MOST_PLACES yz0 yz3 yz4 yz12 yz13)
 have M4:MethD P w K mg base _ "Walk" _ _ _ _ Fin:=Ah t4 Z.o_Walk.at_ Z.o_Walk.cls n8 ((iH gG).2 D3 Z.t Z.m_MOST_PLACES Z.o_Walk yz12)
 have W_Walk:ClsD P w K mg base _ "Walk" fL:=Ha M4 (fun _ _ _ _ _ _ us hl=>match us,hl with | [_,_],_=>rfl) (fun C hC=>by
  have q:=hC.symm.trans Z.o_Walk.at_
  cases q
  exact Z.k_Walk) Fp
 have M5:MethD P w K mg base _ "Walk" _ _ _ _ rF:=Ah t5 Z.o_Walk.at_ Z.o_Walk.cls pL ((jq).2 Z.o_Walk yz4)
 have M6:MethD P w K mg base _ "Walk" _ _ _ _ gb:=Ah t6 Z.o_Walk.at_ Z.o_Walk.cls qp ((j8).2 Z.o_Walk.at_ Z.o_Walk Z.q_Walk yz3)
 have M7:MethD P w K mg base _ "Walk" _ _ _ _ rJ:=Ah t7 Z.o_Walk.at_ Z.o_Walk.cls oh ((iI).2 Z.o_Walk)
 have D8:DefD P w K mg base _ _ _ uf:=okd (t8 X G) pM ((jr).2 yz4)
 have D9:DefD P w K mg base _ _ _ ug:=okd (t9 X G) m9 ((pF).2 yz8)
 have D10:DefD P w K mg base _ _ _ gH:=okd (t10 X G) lU ((mZ).2 )
 have D11:DefD P w K mg base _ _ _ mQ:=okd (t11 X G) qX ((lH).2 yz1 yz2 yz3)
 have D12:DefD P w K mg base _ _ _ wA:=okd (t12 X G) kj ((gU gH).2 D10 yz4 yz5)
 have D13:DefD P w K mg base _ _ _ qG:=okd (t13 X G) m8 ((jN gH).2 D10 yz4)
 have R14:∀n,DefD P w K mg base (2+n) _ _ (qF n):=fun n=>by
  induction n with
  |zero=>exact (okd (k:=1) (t14 X G) ig fun _=>wW)
  |succ n ih=>exact okd (t14 X G) ig ((iR gH mQ qG (qF n)).2 (Nat.le_add_right _ _) D10 D11 D13 ih yz3 yz4 yz5 yz13)
 have D14:DefD P w K mg base _ _ _ (qF 8):=R14 _
 have D15:DefD P w K mg base _ _ _ wB:=okd (t15 X G) ni ((pG wA gH).2 D12 D10 yz13)
 have D16:DefD P w K mg base _ _ _ rK:=okd (t16 X G) lQ ((iT gH wB).2 D10 D15 yz5 yz8 yz10 yz11 yz13)
 have D17:DefD P w K mg base _ _ _ rH:=okd (t17 X G) lO ((fJ fL).2 W_Walk Z.t Z.m_BadWalk Z.m_NoLot Z.m_NoWalk Z.m_FadeError yz3)
 have D18:DefD P w K mg base _ _ _ jA:=okd (t18 X G) ie ((eF mQ).2 D11 yz0 yz3 yz4 yz10 yz12 yz13)
 have D19:DefD P w K mg base _ _ _ rG:=okd (t19 X G) km ((lG rH jA fL rF gb rJ).2 D17 D18 W_Walk M5 M6 M7 Z.o_Walk Z.q_Walk yz4 yz9 yz12)
 exact ((HR (P:=P) (w:=w) (base:=base) F yE fun cdv A outer s H E hr=>(vM uf ug rK gH qG (qF 8) rG fL gb).2 D8 D9 D16 D10 D13 D14 D19 W_Walk M6 Z.q_Walk yz0 yz4 yz5 yz6 yz7 yz8 yz13 hr).imp fun vs H Q E h=>Gz Z.nl h).mono (by decide)
theorem walk {l:PySem.W.OpenLaw}{q:Program}{loose:List Str}{XP:(Str->Option Value)->Heap->Prop}{YP:World->Heap->Prop}{d:DefRec}{K:Params->PySem.W.Frag} (hn:l.most=some 63) (hdf:d.params.defaults=[])
  (hY:∀(w:World) (h:Heap),YP w h->(K w.params).In h)
  (F:∀(w:World) (mg:Str->Option Value) (fa:Addr) (h:Heap),(K w.params).In h->h.Ns mainGlobals mg->mg d.name=some (.ref fa)->
    ∃fd:FuncData,(∀(s:Shared) (u:Value),BindsTo s fd ⟨[u],[]⟩ [("_law_script",u)])∧∀base:Heap,(K w.params).In base->base.Ns mainGlobals mg->FnOk l.prog w (K w.params) mg base (cM l.prog w) 16 fa fd ["_law_script"] (spLaw (K w.params))) :
  PySem.W.WalkO q loose XP YP l.row.toRowW d [] (fun f vs=>PySem.call f vs):=
 L2.walk_of (n:=63) (k:=16) (x := "_law_script") (CX:=fun w=>cM l.prog w) (sp:=fun w=>spLaw (K w.params)) hn (by decide) hdf ⟨rfl,by decide,by decide,rfl⟩ hY F (fun _ _ a ns hl _ hS=>⟨a,ns,rfl,hS,hl,fun _=>rfl⟩) fun _ _ _ _ _ z=>by
  obtain⟨_,_,_,_,_,_,_,_,_,_,_,_,_,q⟩:=z
  exact q.elim
end K
open PySem PySem.W PyProof.Rows
set_option maxRecDepth 100000 in
set_option maxHeartbeats 0 in
theorem PySem.Challenge.cw_fadewalk_k04_walks_known_holds : PySem.Challenge.rw_fadewalk_k04_walks_known.Holds := by
 w_on;refine T.cut ?_
 k_fill
 refine K.walk (l:=PySem.Challenge.rw_fadewalk_k04_walks_known) rfl rfl (fun w h Y=>PySem.W.kIn_of Y) ?F
 case F=>
  intro w mg fa h KX G hmg
  refine' K.all_mk hmg KX G ?t0 ?t1 ?t2 ?t3 ?t4 ?t5 ?t6 ?t7 ?t8 ?t9 ?t10 ?t11 ?t12 ?t13 ?t14 ?t15 ?t16 ?t17 ?t18 ?t19 ?t20 ?z0 ?z1 ?z2 ?z3 ?z4 ?z5 ?z6 ?z7 ?z8 ?z9 ?z10 ?z11 ?z12 ?z13 (K.Cy KX G ?cE0 ?c_BadWalk ?c_NoLot ?c_NoWalk ?eE0 ?e_BadWalk ?s_BadWalk ?x1_BadWalk ?x2_BadWalk ?x3_BadWalk ?x4_BadWalk ?x5_BadWalk ?e_NoLot ?s_NoLot ?x1_NoLot ?x2_NoLot ?x3_NoLot ?x4_NoLot ?x5_NoLot ?e_NoWalk ?s_NoWalk ?x1_NoWalk ?x2_NoWalk ?x3_NoWalk ?x4_NoWalk ?x5_NoWalk ?v_BadWalk_BadWalk ?v_BadWalk_NoLot ?v_BadWalk_NoWalk ?v_NoLot_BadWalk ?v_NoLot_NoLot ?v_NoLot_NoWalk ?v_NoWalk_BadWalk ?v_NoWalk_NoLot ?v_NoWalk_NoWalk ?g_MOST_PLACES ?cm_Walk ?pg_Walk ?hd_Walk ?po_Walk ?sa_Walk ?mk_Walk ?kc_Walk ?qn_Walk ?qm_Walk ?qc_Walk ?qg_Walk ?qt_Walk ?qi_Walk ?nf_Walk_rows ?nf_Walk_whole ?nl)
  case cm_Walk=>k_is
  case cE0 | c_BadWalk | c_NoLot | c_NoWalk | eE0 | e_BadWalk | s_BadWalk | x1_BadWalk | x2_BadWalk | x3_BadWalk | x4_BadWalk | x5_BadWalk | e_NoLot | s_NoLot | x1_NoLot | x2_NoLot | x3_NoLot | x4_NoLot | x5_NoLot | e_NoWalk | s_NoWalk | x1_NoWalk | x2_NoWalk | x3_NoWalk | x4_NoWalk | x5_NoWalk | v_BadWalk_BadWalk | v_BadWalk_NoLot | v_BadWalk_NoWalk | v_NoLot_BadWalk | v_NoLot_NoLot | v_NoLot_NoWalk | v_NoWalk_BadWalk | v_NoWalk_NoLot | v_NoWalk_NoWalk | g_MOST_PLACES | pg_Walk | hd_Walk | po_Walk | sa_Walk | mk_Walk | kc_Walk | qn_Walk | qm_Walk | qc_Walk | qg_Walk | qt_Walk | qi_Walk | nf_Walk_rows | nf_Walk_whole | nl=>first | k_is | k_exc | kernel_rfl
  case t4 | t5 | t6 | t7=>apply L2.xJ<;>k_is
  case t0 | t1 | t2 | t3 | t8 | t9 | t10 | t11 | t12 | t13 | t14 | t15 | t16 | t17 | t18 | t19 | t20=>apply L3.GK<;>k_is
  case z0 | z1 | z2 | z3 | z4 | z5 | z6 | z7 | z8 | z9 | z10 | z11 | z12 | z13=>delta L3.TB;k_is
