import PyProof.Rows.All
import Wide.All
import OpenK.AllK
import Wide.FinOn
import Lean
import PyProof.EqAt
import PyProof.EqKinds
import PyProof.TupleCall
import PyProof.ReprRoads
import PyProof.P3Eq
import PyProof.NeData
import PyProof.ReprLen
import PyProof.Rows.RegStrFacts
import OpenK.KOwn
import PyProof.StationsW
import PyProof.Rows.Catch
import PyProof.Rows.Own
import PyProof.RulesAs
import PyProof.ExcBaseAll.ValueError
import PyProof.NsDelKeeps
import PyProof.ExcArgsOwn
import PyProof.ExcAttrAll.ValueError
import PyProof.CompFree
import PyProof.CompMap
import PyProof.ConsumeWalk
import PyProof.SumWalk
import PyProof.Rows.TupIter
import PyProof.Rows.SumGenD
import PyProof.FString
import PyProof.Rows.FStr
import PyProof.Rows.RuleIs
import PyProof.FactsAll.tuple_iterator_1
import PyProof.FactsAll.tuple_2
import PyProof.FactsAll.list_3
import PyProof.Cells
import PyProof.ZipIter
import PyProof.EnumMake
import PyProof.EnumFor
import PyProof.ListRange
import PyProof.TupleOfSeq
import PyProof.Rows.SetFrom
import PyProof.Rows.SortShell
import PyProof.CollectWalk
import PyProof.FactsAll.set_1
import PyProof.Rows.SortWalk
import PyProof.FactsAll.set_2
import KE.KDictSum
import KE.KSortTup
import PyProof.TupleKey
import PyProof.IsRules
import KE.KTupSum
import PyProof.WalkInts
import PyProof.SeqI3
import PyProof.Conv_int_bool
import PySem.Challenge.RW_fadewalk_k32_meetings_looked_at
set_option Elab.async false
set_option maxRecDepth 100000
set_option maxHeartbeats 8000000
namespace T
open PySem PySem.W PyProof.Rows
/-- the top's run over a tree -/
noncomputable def runT (p:Program) (w:World) (m:Nat) (a:Option Value):Nat->SharedT->Thread->Option SharedT
 | 0,_,_=>none
 | n + 1,s,t=>match through t with
   | true=>some s
   | false=>match stepOk m a t with
     | false=>none
     | true=>match stepT (denote treeTable) p w s t with
       | some r=>runT p w m a n r.1 r.2
       | none=>none
theorem run_of {p:Program}{w:World}{m:Nat}{a:Option Value}:∀ {n:Nat}{s s':SharedT}{t:Thread},runT p w m a n s t=some s'->topRun treeTable p w m a n s.abs t=some s'.abs
 | 0,_,_,_,h=>by cases h
 | n + 1,s,s',t,h=>by
   unfold runT at h
   unfold topRun
   cases ht:through t with
   | true=>rw [ht] at h;cases h;rfl
   | false=>
     rw [ht] at h
     cases hk:stepOk m a t with
     | false=>rw [hk] at h;cases h
     | true=>
       rw [hk] at h
       cases hs:stepT (denote treeTable) p w s t with
       | none=>rw [hs] at h;cases h
       | some r=>obtain ⟨s2,t2⟩:=r;rw [hs] at h;rw [stepT_spec hs];exact run_of h
noncomputable def grow:List Obj->Nat->BT->BT
 | [],_,t=>t
 | o::l,n,t=>grow l (n + 1) (t.ins n o)
noncomputable def bootT (B:Heap) (os:OsState):SharedT:=⟨grow B.objs.toList 0 .nil,B.objs.size,B.life,#[],boot_drawn,boot_toks,os⟩
noncomputable def bootA (w:World) (os:OsState):Shared:=⟨boot_heap w.params,#[],boot_drawn,boot_toks,os⟩
theorem boot_abs (w:World) (os:OsState):(bootT (boot_heap w.params) os).abs=bootA w os:=by kernel_rfl
theorem boot_ns (w:World):((boot_heap w.params).isNs mainGlobals && (#[]:Array GenState).size == 0)=true:=by kernel_rfl
noncomputable def chk {α:Type} (p q:Program) (loose:List Str) (Xt:Shared->Bool) (Yf:Shared->α) (N:Nat) (B:Heap) (w:World) (os:OsState):=
 (runT p w B.objs.size (B.nsMap mainGlobals "__annotations__") N (bootT B os) (topStub p)).map fun s=>
   (staticsOk (importedModules p.main.body) B s.abs.heap && namesBound p s.abs.heap && gensDone s.abs && laidKept B s.abs.heap,openSeen q loose (importedModules p.main.body) Xt true s.abs,Yf s.abs)
theorem left {α:Type}{p q:Program}{loose:List Str}{Xt:Shared->Bool}{Yf:Shared->α}{Ya:World->α}{N:Nat} (e:opening p=plainProg p.main.scope.names) (hN:Nat.ble 600 N=true) (f:∀ s,fenceModules? p s=some s)
  (h:∀ (w:World) (os:OsState),chk p q loose Xt Yf N (boot_heap w.params) w os=some (true,openGood q loose,Ya w)):LeftO p q loose Xt Yf Ya N:=fun w=>by
 obtain ⟨⟨hh,gs,d,k,os⟩,e1,e2⟩:=Option.map_eq_some_iff.mp (boot_open (N:=N) e hN f w)
 obtain ⟨rfl,rfl,rfl,rfl⟩:hh=boot_heap w.params∧gs=#[]∧d=boot_drawn∧k=boot_toks:=by simpa using e2
 obtain ⟨s,r1,r2⟩:=Option.map_eq_some_iff.mp (h w os)
 have r:=run_of r1
 rw [boot_abs] at r
 obtain ⟨l1,l2,l3⟩:_∧_∧_:=by simpa only [Prod.mk.injEq] using r2
 unfold openEnds topFrom
 rw [e1]
 show (match (boot_heap w.params).isNs mainGlobals && (#[]:Array GenState).size == 0 with | true=>_ | false=>_:Option Shared).map _=_
 rw [boot_ns]
 show ((topRun treeTable p w (boot_heap w.params).objs.size _ N (bootA w os) (topStub p)).bind _).map _=_
 rw [r]
 show (match staticsOk (importedModules p.main.body) (boot_heap w.params) s.abs.heap && namesBound p s.abs.heap && gensDone s.abs && laidKept (boot_heap w.params) s.abs.heap with | true=>_ | false=>_:Option Shared).map _=_
 rw [l1]
 show some (openSeen q loose (importedModules p.main.body) Xt true s.abs,Yf s.abs)=some _
 rw [l2,l3]
noncomputable def tp (i:Nat):Stmt:=PySem.Challenge.pw_fadewalk_k32_meetings_looked_at.main.body.getD i (.Pass ⟨0,0,0,0⟩)
noncomputable def view:Program:={ PySem.Challenge.pw_fadewalk_k32_meetings_looked_at with main:={ PySem.Challenge.pw_fadewalk_k32_meetings_looked_at.main with body:=[tp 0,tp 2,tp 3,tp 5,tp 7,tp 8,tp 9,tp 10,tp 12,tp 14,tp 16,tp 17,tp 19,tp 20,tp 21,tp 22,tp 23,tp 24,tp 25,tp 26,tp 27,tp 28,tp 29,tp 30,tp 31,tp 32] } }
noncomputable def loos:List Str:=["Walk"]
noncomputable def lvs:List (Str×WData):=[]
noncomputable def lhs (B:Heap) (as:List Addr) (w:World) (os:OsState):=chk PySem.Challenge.pw_fadewalk_k32_meetings_looked_at view loos (fun s=>xlAt view lvs s && recOk (RowW.records (OpenRow.toRowW (OpenLaw.row PySem.Challenge.rw_fadewalk_k32_meetings_looked_at))) s) (fun s=>as.map s.heap.get?) 3158 B w os
noncomputable def rhs (K:Params->Frag) (w:World):=some (true,openGood view loos,(K w.params).map fun p=>some p.2)
lay_quick T.lhs T.rhs
theorem hook {K:Params->Frag}{as:List Addr}{e:∀ P,as=(K P).map (·.1)} (h:∀ (w:World) (os:OsState),PySem.W.Fast.tw12313586583820656202 (boot_heap w.params) as w os=PySem.W.Fast.tw7420988445182104193 K w) :
  LeftO PySem.Challenge.pw_fadewalk_k32_meetings_looked_at view loos (fun s=>xlAt view lvs s && recOk (RowW.records (OpenRow.toRowW (OpenLaw.row PySem.Challenge.rw_fadewalk_k32_meetings_looked_at))) s) (Hook.obs (kHook K as e)) (Hook.val (kHook K as e)) 3158:=
 left rfl (by decide) (fun _=>rfl) fun w os=>by
  show lhs (boot_heap w.params) as w os=rhs K w
  rw [PySem.W.Fast.te12313586583820656202,PySem.W.Fast.te7420988445182104193]
  exact h w os
local macro_rules
 | `(tactic| o_head $H)=>`(tactic| (
   refine PySem.W.holds_open (q:=T.view) (loose:=T.loos)
    (Xt:=fun s=>PySem.W.xlAt T.view T.lvs s && PySem.W.recOk (PySem.W.RowW.records (PySem.W.OpenRow.toRowW (PySem.W.OpenLaw.row PySem.Challenge.rw_fadewalk_k32_meetings_looked_at))) s)
    (XP:=PySem.W.XL T.view T.lvs) (Yf:=PySem.W.Hook.obs $H) (Ya:=PySem.W.Hook.val $H)
    (YP:=PySem.W.Hook.says $H) (N:=3158) ?hl (PySem.W.Hook.of $H) (PySem.W.Hook.keeps $H)
    (fun s e=>PySem.W.xl_of s (Bool.and_eq_true_iff.mp e).1) PySem.W.XL.keeps rfl rfl rfl
    (fun s e=>PySem.W.recFacts_of (Bool.and_eq_true_iff.mp e).2) rfl
    (by first | assumption | decide +kernel) (by decide +kernel)
    ⟨rfl,rfl,rfl,rfl,rfl,by decide +kernel⟩ ?hw ?hc;(case hl=>exact T.hook (fun w os=>by kernel_rfl))))
open_top cut for PySem.Challenge.rw_fadewalk_k32_meetings_looked_at
end T
set_option linter.all false
namespace L2
open PySem PySem.Spec PyProof.Rows
abbrev Key:=Sum Int Str
def keyIs:Key->Value->Bool
 |.inl k,v=>Value.isInt k v
 |.inr x,v=>Value.isStrOf x v
def keyH(w:World):Key->Int
 |.inl k=>hashInt k
 |.inr x=>hashStr w x
theorem keyIs_shape:∀ {k:Key}{v:Value},keyIs k v=true->(∃ i t,k=Sum.inl i∧v=Value.int i t)∨(∃ x t,k=Sum.inr x∧v=Value.str x t)
 |.inl i,v,h=>by
   obtain⟨t,e⟩:=Value.isInt_shape (k:=i) (v:=v) h
   exact .inl ⟨i,t,rfl,e⟩
 |.inr x,v,h=>by
   obtain⟨t,e⟩:=Value.isStrOf_shape (x:=x) (v:=v) h
   exact .inr ⟨x,t,rfl,e⟩
theorem keyIs_int(i:Int)(t:Tok):keyIs (.inl i) (.int i t)=true:=by simp[keyIs,Value.isInt]
theorem keyIs_str(x:Str)(t:Tok):keyIs (.inr x) (.str x t)=true:=by simp[keyIs,Value.isStrOf]
theorem key_ll(a b:Int):decide ((Sum.inl a:Key)=Sum.inl b)=(a==b):=by
 by_cases e:a=b
 ·subst e;simp
 ·have h:¬ (Sum.inl a:Key)=Sum.inl b:=fun q=>e (Sum.inl.inj q)
  rw[decide_eq_false h]
  exact (beq_eq_false_iff_ne.mpr e).symm
theorem key_rr(a b:Str):decide ((Sum.inr a:Key)=Sum.inr b)=decide (a=b):=by
 by_cases e:a=b
 ·subst e;simp
 ·have h:¬ (Sum.inr a:Key)=Sum.inr b:=fun q=>e (Sum.inr.inj q)
  rw[decide_eq_false h,decide_eq_false e]
theorem key_lr(a:Int)(b:Str):decide ((Sum.inl a:Key)=Sum.inr b)=false:=decide_eq_false (fun q=>nomatch q)
theorem key_rl(a:Str)(b:Int):decide ((Sum.inr a:Key)=Sum.inl b)=false:=decide_eq_false (fun q=>nomatch q)
def mixKind (prog:Program) (w:World):PySem.KeyKind prog w Key where
 is:=keyIs
 hash:=keyH w
 inj:=fun v a b ha hb=>by
  rcases keyIs_shape ha with ⟨i,t,rfl,rfl⟩ | ⟨x,t,rfl,rfl⟩
  ·rcases keyIs_shape hb with ⟨j,u,rfl,e⟩ | ⟨y,u,rfl,e⟩
   ·injection e with e1 _;rw[e1]
   ·exact nomatch e
  ·rcases keyIs_shape hb with ⟨j,u,rfl,e⟩ | ⟨y,u,rfl,e⟩
   ·exact nomatch e
   ·injection e with e1 _;rw[e1]
 byValue:=fun k v h=>by
  rcases keyIs_shape h with ⟨i,t,rfl,rfl⟩ | ⟨x,t,rfl,rfl⟩<;>rfl
 pyHash:=fun hv h=>by
  rcases keyIs_shape hv with ⟨i,t,rfl,rfl⟩ | ⟨x,t,rfl,rfl⟩
  ·exact wpAny_pyHash_int h
  ·exact wpAny_pyHash_str h
 eqBool:=fun hu hv h=>by
  rcases keyIs_shape hu with ⟨i,t,rfl,rfl⟩ | ⟨x,t,rfl,rfl⟩
  ·rcases keyIs_shape hv with ⟨j,u,rfl,rfl⟩ | ⟨y,u,rfl,rfl⟩
   ·rw[key_ll] at h;exact wpAny_eqBool_int h
   ·rw[key_lr] at h;exact SeqAt.EqAt.int_str i t y u _ _ _ _ h
  ·rcases keyIs_shape hv with ⟨j,u,rfl,rfl⟩ | ⟨y,u,rfl,rfl⟩
   ·rw[key_rl] at h;exact SeqAt.EqAt.str_int x t j u _ _ _ _ h
   ·rw[key_rr] at h;exact wpAny_eqBool_str h
 «strs»:=fun k x t v h=>by
  rcases keyIs_shape h with ⟨i,u,rfl,e⟩ | ⟨y,u,rfl,e⟩
  ·exact nomatch e
  ·injection e with e1 _
   subst e1
   cases v<;>rfl
theorem mixKind_int(prog:Program)(w:World)(i:Int)(t:Tok):(mixKind prog w).is (.inl i) (.int i t)=true:=keyIs_int i t
theorem mixKind_str(prog:Program)(w:World)(x:Str)(t:Tok):(mixKind prog w).is (.inr x) (.str x t)=true:=keyIs_str x t
open PySem PySem.Spec PyProof.Rows
inductive V where
 |non | bl (b:Bool) | int (i:Int) | str (x:Str) | byt (b:Array UInt8) | flt (b:UInt64) | ref (a:Addr) | ty (n:String)
 deriving DecidableEq
def RelV:V->Value->Prop
 |.non,u=>u=Value.none
 |.bl b,u=>u=Value.bool b
 |.int i,u=>∃t,u=Value.int i t
 |.str x,u=>∃t,u=Value.str x t
 |.byt b,u=>∃t,u=Value.bytes b t
 |.flt b,u=>∃t,u=Value.float b t
 |.ref a,u=>u=Value.ref a
 |.ty n,u=>u=Value.type n
abbrev Vals:List V->List Value->Prop:=Paired RelV
theorem Vals.length{xs:List V}{us:List Value}(r:Vals xs us):xs.length=us.length:=Paired.length r
theorem Vals.get:∀ {xs:List V}{us:List Value}{i:Nat}{x:V},Vals xs us->xs[i]?=some x->∃ u,us[i]?=some u∧RelV x u
 |_,_,_,_,.nil,e=>by simp at e
 |_,_,0,_,.cons r _,e=>by simp at e;subst e;exact⟨_,rfl,r⟩
 |_,_,i+1,x,.cons _ t,e=>by
   obtain⟨u,h1,h2⟩:=Vals.get (i:=i) (x:=x) t (by simpa using e)
   exact⟨u,by simpa using h1,h2⟩
theorem Vals.set{x:V}{u:Value}(r:RelV x u):∀{xs:List V}{us:List Value} (i:Nat),Vals xs us->Vals (xs.set i x) (us.set i u)
 |_,_,_,.nil=>.nil
 |_,_,0,.cons _ t=>.cons r t
 |_,_,i+1,.cons q t=>.cons q (Vals.set r i t)
theorem Vals.append:∀{xs ys:List V}{us ws:List Value},Vals xs us->Vals ys ws->Vals (xs++ys) (us++ws)
 |_,_,_,_,.nil,s=>s
 |_,_,_,_,.cons r t,s=>.cons r (Vals.append t s)
theorem Vals.take:∀{xs:List V}{us:List Value} (n:Nat),Vals xs us->Vals (xs.take n) (us.take n)
 |_,_,0,_=>.nil
 |_,_,_+1,.nil=>.nil
 |_,_,n+1,.cons r t=>.cons r (Vals.take n t)
theorem Vals.drop:∀{xs:List V}{us:List Value} (n:Nat),Vals xs us->Vals (xs.drop n) (us.drop n)
 |_,_,0,r=>r
 |_,_,_+1,.nil=>.nil
 |_,_,n+1,.cons _ t=>Vals.drop n t
theorem Vals.none_of:∀{xs:List V}{us:List Value}{i:Nat},Vals xs us->xs[i]?=none->us[i]?=none:=fun {xs us i} r e=>by
 have h1:=r.length
 have h2:xs.length≤i:=List.getElem?_eq_none_iff.mp e
 exact List.getElem?_eq_none_iff.mpr (by omega)
def RelO:Option V->Option Value->Prop
 |some v,some u=>RelV v u
 |none,none=>True
 |_,_=>False
def KV{κ:Type}:List (κ×V)->List (κ×Value)->Prop:=Paired fun (p:κ×V) (q:κ×Value)=>p.1=q.1∧RelV p.2 q.2
def kV:Key->V
 |.inl i=>.int i
 |.inr x=>.str x
inductive HO where
 /-- a list -/
 |lst (xs:List V)
 /-- a tuple (never changes) -/
 |tup (xs:List V)
 /-- a dict whose keys are ints and texts;one whose keys are tuples of ints and texts (the empty one is both) -/
 |dK (kvs:List (Key×V)) | dT (kvs:List (List Key×V))
 /-- a set of ints: its members,its size -/
 |set (S:Int->Bool) (n:Nat)
 /-- an instance of the class at C,its dict at dx,its attributes -/
 |ins (C dx:Addr) (fs:List (Str×V))
 /-- the dict of the instance at x -/
 |own (x:Addr)
 /-- the dict of an exception -/
 |xd (fs:List (Str×V))
 /-- a bound method,f of x -/
 |met (f x:Addr)
 /-- a range object lo,lo+1,.. below hi -/
 |rng (lo hi:Int)
 /-- a thing that is known to the object (the script;a dict while a loop walks it): read,never written while it is so -/
 |frz (o:Obj) (u:HO)
 /-- a code object's table -/
 |tbl (ps:Array Value)
 /-- any other thing,by what is true of its one object (a def of one's own: SetO a S n:=HO.ext fun h=>..) -/
 |ext (φ:Heap->Prop)
abbrev Hp:=Addr->Option HO
def upd(H:Hp)(a:Addr)(o:HO):Hp:=fun b=>if b=a then some o else H b
theorem upd_same{H:Hp}{a:Addr}{o:HO}:upd H a o a=some o:=by unfold upd;rw[if_pos rfl]
theorem upd_ne{H:Hp}{a b:Addr}{o:HO}(h:b≠a):upd H a o b=H b:=by unfold upd;rw[if_neg h]
theorem upd_upd{H:Hp}{a:Addr}{o u:HO}:upd (upd H a o) a u=upd H a u:=by
 funext b;unfold upd;split<;>rfl
theorem ne_of_none{H:Hp}{a b:Addr}{o:HO}(h:H a=some o)(h':H b=none):a≠b:=by
 intro e;subst e;rw[h] at h';cases h'
section
variable(P:Program)(w:World)
def ObjOk (H:Hp) (h:Heap) (a:Addr):HO->Prop
 |.lst xs=>xs.length≤sizeLine∧∃(its:List Value) (n:Nat),Vals xs its∧h.get? a=some { cls:=.type "list",data:=.seq its.toArray n }
 |.tup xs=>xs.length≤sizeLine∧∃its:List Value,Vals xs its∧IsTup h a its.toArray
 |.dK kvs=>kvs.length≤sizeLine∧(a==sysModules)=false∧∃vs,KV kvs vs∧h.DictOf (mixKind P w) a vs
 |.dT kvs=>kvs.length≤sizeLine∧(a==sysModules)=false∧∃xs:List (List Key×Addr×Value),
   Paired (fun (p:List Key×V) (q:List Key×Addr×Value)=>p.1=q.1∧H q.2.1=some (.tup (p.1.map kV))∧RelV p.2 q.2.2) kvs xs ∧
   ∃o es ep,h.get? a=some o∧o.ExactDict∧o.data=.dict es ep∧es.toList=xs.map (entryOfKey (tupleKind (mixKind P w)))∧(xs.map (·.1)).Nodup
 |.set S n=>h.SetOf (intKind P w) a S n
 |.ins C dx fs=>H dx=some (.own a)∧fs.length≤1000∧dx≠a∧h.get? a=some (PySem.W.instObj C dx) ∧
   ∃mA,h.Ns1 dx mA∧(∀f,RelO (fs.lookup f) (mA f))∧PySem.Within mA (fs.map (·.1))
 |.own _=>∃o,h.get? a=some o
 |.xd fs=>∃mA,h.Ns1 a mA∧∀f,RelO (fs.lookup f) (mA f)
 |.rng lo hi=>∃t u v,h.get? a=some { cls:=.type "range",data:=.fields #[.int lo t,.int hi u,.int 1 v] }
 |.frz o u=>h.get? a=some o∧ObjOk H h a u
 |.tbl ps=>h.get? a=some { cls:=.none,data:=.fields ps }
 |.met f x=>h.get? a=some (PySem.W.methodObj (.ref f) (.ref x))
 |.ext φ=>φ h∧(∃o,h.get? a=some o)∧∀h1 h2:Heap,φ h1->(∀o,h1.get? a=some o->h2.get? a=some o)->φ h2
def HOk(H:Hp)(h:Heap):Prop:=∀a o,H a=some o->ObjOk P w H h a o
end
section
variable{P:Program}{w:World}{H H':Hp}{h h':Heap}{a:Addr}{o:HO}
theorem ObjOk.lt(x:ObjOk P w H h a o):a<h.objs.size:=by
 cases o with
 |lst xs=>obtain⟨_,_,_,_,e⟩:=x;exact Heap.lt_size e
 |tup xs=>obtain⟨_,_,_,p⟩:=x;exact p.lt
 |dK kvs=>obtain⟨_,_,_,_,o,_,_,e,_⟩:=x;exact Heap.lt_size e
 |dT kvs=>obtain⟨_,_,_,_,o,_,_,e,_⟩:=x;exact Heap.lt_size e
 |set S n=>obtain⟨o,_,_,_,e,_⟩:=x;exact Heap.lt_size e
 |ins C dx fs=>obtain⟨_,_,_,e,_⟩:=x;exact Heap.lt_size e
 |own y=>obtain⟨_,e⟩:=x;exact Heap.lt_size e
 |xd fs=>obtain⟨_,⟨_,_,_,e,_⟩,_⟩:=x;exact Heap.lt_size e
 |rng lo hi=>obtain⟨_,_,_,e⟩:=x;exact Heap.lt_size e
 |frz ob u=>obtain⟨e,_⟩:=x;exact Heap.lt_size e
 |tbl ps=>exact Heap.lt_size (show h.get? a=some _ from x)
 |met f y=>exact Heap.lt_size (show h.get? a=some _ from x)
 |ext φ=>obtain⟨_,⟨_,e⟩,_⟩:=x;exact Heap.lt_size e
theorem Paired.mapP{α β:Type}{F G:α->β->Prop}:∀{l₁:List α}{l₂:List β},Paired F l₁ l₂->(∀a b,F a b->G a b)->Paired G l₁ l₂
 |_,_,.nil,_=>.nil
 |_,_,.cons r t,f=>.cons (f _ _ r) (Paired.mapP t f)
theorem ObjOk.stay (x:ObjOk P w H h a o) (k:∀ b u,(b=a∨H b=some (.own a))->h.get? b=some u->h'.get? b=some u)
  (ho:∀b,H b=some (.own a)->H' b=some (.own a)) (ht:∀b xs,H b=some (.tup xs)->H' b=some (.tup xs)):ObjOk P w H' h' a o:=by
 induction o with
 |lst xs=>obtain⟨z,its,n,r,e⟩:=x;exact⟨z,its,n,r,k _ _ (.inl rfl) e⟩
 |tup xs=>obtain⟨z,its,r,ob,e,c⟩:=x;exact⟨z,its,r,ob,k _ _ (.inl rfl) e,c⟩
 |dK kvs=>obtain⟨z,y,vs,r,ob,es,ep,e,c⟩:=x;exact⟨z,y,vs,r,ob,es,ep,k _ _ (.inl rfl) e,c⟩
 |dT kvs=>
   obtain⟨z,y,xs,r,ob,es,ep,e,c⟩:=x
   exact⟨z,y,xs,Paired.mapP r fun p q z=>⟨z.1,ht _ _ z.2.1,z.2.2⟩,ob,es,ep,k _ _ (.inl rfl) e,c⟩
 |set S n=>obtain⟨ob,es,ep,t,e,c⟩:=x;exact⟨ob,es,ep,t,k _ _ (.inl rfl) e,c⟩
 |ins C dx fs=>
   obtain⟨d,z,ne,e,mA,⟨od,es,ep,e2,c⟩,r⟩:=x
   exact⟨ho _ d,z,ne,k _ _ (.inl rfl) e,mA,⟨od,es,ep,k _ _ (.inr d) e2,c⟩,r⟩
 |own y=>obtain⟨ob,e⟩:=x;exact⟨ob,k _ _ (.inl rfl) e⟩
 |xd fs=>obtain⟨mA,⟨od,es,ep,e,c⟩,r⟩:=x;exact⟨mA,⟨od,es,ep,k _ _ (.inl rfl) e,c⟩,r⟩
 |rng lo hi=>obtain⟨t,u,v,e⟩:=x;exact⟨t,u,v,k _ _ (.inl rfl) e⟩
 |frz ob u ih=>obtain⟨e,q⟩:=x;exact⟨k _ _ (.inl rfl) e,ih q⟩
 |tbl ps=>
   have e:h.get? a=some { cls:=.none,data:=.fields ps }:=x
   show h'.get? a=some { cls:=.none,data:=.fields ps }
   exact k a _ (.inl rfl) e
 |met f y=>
   have e:h.get? a=some (PySem.W.methodObj (.ref f) (.ref y)):=x
   show h'.get? a=some (PySem.W.methodObj (.ref f) (.ref y))
   exact k a _ (.inl rfl) e
 |ext φ=>obtain⟨p,⟨o,e⟩,st⟩:=x;exact⟨st _ _ p fun o q=>k _ _ (.inl rfl) q,⟨o,k _ _ (.inl rfl) e⟩,st⟩
theorem HOk.lt(x:HOk P w H h)(e:H a=some o):a<h.objs.size:=(x a o e).lt
theorem HOk.fresh(x:HOk P w H h)(e:h.objs.size≤a):H a=none:=by
 cases q:H a with
 |none=>rfl
 |some u=>exact absurd (Nat.lt_of_lt_of_le (x.lt q) e) (Nat.lt_irrefl _)
theorem HOk.kept(x:HOk P w H h)(k:∀b u,h.get? b=some u->h'.get? b=some u):HOk P w H h':=fun a o e=>
 (x a o e).stay (fun b u _ q=>k b u q) (fun _ q=>q) fun _ _ q=>q
theorem HOk.laid(x:HOk P w H h)(k:∀b u,h.get? b=some u->h'.get? b=some u)(hp:h.objs.size≤a)(new:ObjOk P w (upd H a o) h' a o):HOk P w (upd H a o) h':=fun b u e=>by
 have hn:=x.fresh hp
 by_cases hb:b=a
 ·subst hb;rw[upd_same] at e;cases e;exact new
 ·rw[upd_ne hb] at e
  exact (x b u e).stay (fun c v _ q=>k c v q) (fun c q=>by rw[upd_ne (ne_of_none q hn)];exact q) fun c xs q=>by rw[upd_ne (ne_of_none q hn)];exact q
end
def Rd(H:Hp)(a:Addr)(u:HO):Prop:=H a=some u∨∃o,H a=some (.frz o u)
theorem Rd.ok{P:Program}{w:World}{H:Hp}{h:Heap}{a:Addr}{u:HO}(r:Rd H a u)(x:HOk P w H h):ObjOk P w H h a u:=by
 rcases r with r | ⟨o,r⟩
 ·exact x a u r
 ·obtain⟨_,q⟩:=x a _ r
  exact q
def Mut:Option HO->Prop
 |some (.lst _)=>True
 |some (.dK _)=>True
 |some (.dT _)=>True
 |some (.set _ _)=>True
 |some (.ins _ _ _)=>True
 |some (.ext _)=>True
 |_=>False
section
variable{P:Program}{w:World}{H:Hp}{h h':Heap}{x e:Addr}{o':HO}
theorem HOk.write (ok:HOk P w H h) (mu:Mut (H x)) (he:e=x∨H e=some (.own x)) (k:∀ b u,b≠e->h.get? b=some u->h'.get? b=some u) (heo:∃ u,h'.get? e=some u)
  (new:ObjOk P w (upd H x o') h' x o'):HOk P w (upd H x o') h':=fun b u q=>by
 have nown:∀c y,H c=some (.own y)->c≠x:=fun c y r z=>by subst z;rw[r] at mu;exact mu
 have ntup:∀c xs,H c=some (.tup xs)->c≠x:=fun c xs r z=>by subst z;rw[r] at mu;exact mu
 by_cases hb:b=x
 ·subst hb;rw[upd_same] at q;cases q;exact new
 ·rw [upd_ne hb] at q
  by_cases hbe:b=e
  ·have q':H b=some (.own x):=by
    rcases he with z | z
    ·exact absurd (hbe.trans z) hb
    ·rw[hbe];exact z
   rw[q] at q';cases q'
   obtain⟨v,hv⟩:=heo
   exact⟨v,by rw[hbe];exact hv⟩
  ·refine (ok b u q).stay (fun c v hc r=>k c v ?_ r) (fun c r=>by rw[upd_ne (nown c b r)];exact r) fun c xs r=>by rw[upd_ne (ntup c xs r)];exact r
   rcases hc with rfl | hc
   ·exact hbe
   ·rintro rfl
    rcases he with z | z
    ·exact nown c b hc z
    ·rw[hc] at z;cases z;exact hb rfl
end
structure Un(fs ex:List Addr)(H H':Hp)(h h':Heap):Prop where
 keep:∀b o,h.get? b=some o->H b=none->b∉fs->b∉ex->h'.get? b=some o
 slot:∀b o,h.get? b=some o->H b=none->b∈fs->b∉ex->∃sl,h'.get? b=some { o with slots:=sl }
 free:∀b o,h.get? b=some o->H b=none->b∉ex->H' b=none
 there:∀b o,h.get? b=some o->b∉ex->∃o',h'.get? b=some o'
 tups:∀b xs,H b=some (.tup xs)->H' b=some (.tup xs)
 frzs:∀b o u,H b=some (.frz o u)->H' b=some (.frz o u)
 tbls:∀b ps,H b=some (.tbl ps)->∃more,H' b=some (.tbl (ps++more))
section
variable{fs fs' ex ex':List Addr}{H H1 H2:Hp}{h h1 h2 h':Heap}{a x e:Addr}{o:HO}
theorem Un.any(u:Un fs ex H H1 h h1){b:Addr}{ob:Obj}(q:h.get? b=some ob)(n:H b=none)(hx:b∉ex):∃sl,h1.get? b=some { ob with slots:=sl }:=by
 by_cases hb:b∈fs
 ·exact u.slot b ob q n hb hx
 ·exact⟨ob.slots,u.keep b ob q n hb hx⟩
theorem Un.kept(k:∀b u,h.get? b=some u->h'.get? b=some u):Un fs ex H H h h':=
 ⟨fun b ob q _ _ _=>k b ob q,fun b ob q _ _ _=>⟨ob.slots,k b ob q⟩,fun _ _ _ n _=>n,fun b ob q _=>⟨ob,k b ob q⟩,fun _ _ q=>q,fun _ _ _ q=>q,fun _ ps q=>⟨#[],by rw[q];simp⟩⟩
theorem Un.refl:Un fs ex H H h h:=Un.kept fun _ _ q=>q
theorem Un.laid(k:∀b u,h.get? b=some u->h'.get? b=some u)(hp:h.objs.size≤a)(hn:H a=none):Un fs ex H (upd H a o) h h' where
 keep:=fun b u q _ _ _=>k b u q
 slot:=fun b u q _ _ _=>⟨u.slots,k b u q⟩
 free:=fun b u q n _=>by rw[upd_ne (Nat.ne_of_lt (Nat.lt_of_lt_of_le (Heap.lt_size q) hp))];exact n
 there:=fun b u q _=>⟨u,k b u q⟩
 tups:=fun b xs q=>by rw[upd_ne (ne_of_none q hn)];exact q
 frzs:=fun b u xs q=>by rw[upd_ne (ne_of_none q hn)];exact q
 tbls:=fun b ps q=>⟨#[],by rw[upd_ne (ne_of_none q hn),q];simp⟩
theorem Un.write(mu:Mut (H x))(he:e=x∨H e=some (.own x))(k:∀b u,b≠e->h.get? b=some u->h'.get? b=some u)(heo:∃u,h'.get? e=some u):Un fs ex H (upd H x o) h h':=by
 have hx:∀b,H b=none->b≠x:=fun b n z=>by subst z;rw[n] at mu;exact mu
 have hb:∀b,H b=none->b≠e:=fun b n z=>by
  subst z
  rcases he with r | r
  ·exact hx b n r
  ·rw[n] at r;cases r
 have hm:∀b u,H b=some u->¬ Mut (some u)->b≠x:=fun b u q nm z=>by subst z;rw[q] at mu;exact nm mu
 refine⟨fun b u q n _ _=>k b u (hb b n) q,fun b u q n _ _=>⟨u.slots,k b u (hb b n) q⟩,fun b u q n _=>by rw[upd_ne (hx b n)];exact n,fun b u q _=>?_,
  fun b xs q=>by rw[upd_ne (hm b _ q fun z=>z)];exact q,fun b u xs q=>by rw[upd_ne (hm b _ q fun z=>z)];exact q,fun b ps q=>⟨#[],by rw[upd_ne (hm b _ q fun z=>z),q];simp⟩⟩
 by_cases hbe:b=e
 ·subst hbe;exact heo
 ·exact⟨u,k b u hbe q⟩
end
def trk(h:Heap)(H:Hp):List Addr:=(List.range h.objs.size).filter fun a=>(H a).isSome
def hidT(h:Heap)(H:Hp):Heap:=PySem.W.hideAll h (trk h H)
theorem hidT_size(h:Heap)(H:Hp):(hidT h H).objs.size=h.objs.size:=PySem.W.hideAll_size _ _
theorem hidT_get{h:Heap}{H:Hp}{b:Addr}{o:Obj}(e:h.get? b=some o)(n:H b=none):(hidT h H).get? b=some o:=
 PySem.W.hideAll_get _ e fun hm=>by
  have q:(H b).isSome=true:=(List.mem_filter.mp hm).2
  rw[n] at q;simp at q
theorem of_hidT {h:Heap}{H:Hp}{b:Addr}{o:Obj} (e:(hidT h H).get? b=some o):h.get? b=some o∧H b=none:=by
 have e':h.get? b=some o:=PySem.W.of_hideAll (trk h H) e
 refine⟨e',?_⟩
 cases q:H b with
 |none=>rfl
 |some x=>
   have hm:b∈trk h H:=List.mem_filter.mpr ⟨List.mem_range.mpr (Heap.lt_size e'),by simp[q]⟩
   have z:(hidT h H).get? b=none:=PySem.W.hideAll_none (trk h H) hm
   rw[z] at e;cases e
def allNews(g h:Heap)(L:Addr):List (Addr×Obj):=(List.range h.objs.size).filterMap fun a=>if a=L∨(g.get? a).isSome=true then none else (h.get? a).map fun o=>(a,o)
def rest(g h:Heap)(L d:Addr):List (Addr×Obj):=(allNews g h L).filter fun p=>decide (p.1≠d)
open PySem PySem.Spec PyProof.Rows
structure Mod(K:PySem.W.Frag)(mg:Str->Option Value)(base:Heap):Prop where
 kin:K.In base
 glob:base.Ns mainGlobals mg
 blt:∃mb,base.Ns builtinsNs mb∧∀x:Str,x≠"__name__"->mb x=bootBuiltins x
 nolimit:base.NoLimit
structure Cx where
 prog:Program
 w:World
 K:PySem.W.Frag
 mg:Str->Option Value
 base:Heap
 A:Around
 N:List Str
 s₀:Shared
 H₀:Hp
 env:Env
 outer:List Env
 stack:List Env
 ex:List Addr
 fn:Str->Bool
 calm:Bool
 pn:List (Addr×Obj)
 xe:Value->Shared->Prop
def frs(l:List Env):List Addr:=l.filterMap (·.frame)
abbrev Cx.fs(X:Cx):List Addr:=frs X.outer
def Vis(sc:Scope)(x:Str):Prop:=sc.names.lookup x=some .local∨sc.names.lookup x=some .cell∨sc.names.lookup x=some .free
def Loc(sc:Scope)(x:Str):Prop:=sc.names.lookup x=some .local∨sc.names.lookup x=some .cell
def Look(env:Env)(h:Heap)(m:Str->Option Value)(x:Str)(u:Value):Prop:=
 (env.kindOf x=some .local∧m x=some u)∨((env.kindOf x=some .cell∨env.kindOf x=some .free)∧∃c,env.cells.lookup x=some c∧h.IsCell c (some u))
structure Cx.Ok(X:Cx):Prop where
 mod:Mod X.K X.mg X.base
 kind:X.env.scope.kind=.function
 glob:X.env.globals=mainGlobals
 blt:X.env.builtins=builtinsNs
 above:X.s₀.heap.objs.size≤X.env.locals
 inj:∀x y c,X.env.cells.lookup x=some c->X.env.cells.lookup y=some c->x=y
 has:∀x,(X.env.kindOf x=some .cell∨X.env.kindOf x=some .free)->∃c,X.env.cells.lookup x=some c
 cab:∀x c,X.fn x=true->X.env.cells.lookup x=some c->X.s₀.heap.objs.size≤c
 hd:X.calm=true->X.A.handled=none
 frames:X.A.frames=some X.stack
 stk:X.stack=X.outer∨(X.stack=X.env::X.outer∧X.env.frame=some X.env.locals)
 exf:∀b∈X.ex,b≠X.env.locals∧∀x c,X.env.cells.lookup x=some c->c≠b
 bs:∀b o,X.base.get? b=some o->X.s₀.heap.get? b=some o∧X.H₀ b=none
 bsz:X.base.objs.size≤X.s₀.heap.objs.size
 noex:∀b o,X.base.get? b=some o->b∉X.ex
 exfs:∀b∈X.ex,b∉X.fs
 funs:X.s₀.heap.FunFrames X.base X.outer
 frf:∀b∈X.fs,X.H₀ b=none
structure Inv(X:Cx)(pins:List (Addr×Obj))(σ:List (Option V))(H:Hp)(s:Shared):Prop where
 ok:X.Ok
 os:s.os=X.s₀.os
 bare:AllBare s.gens
 base:Un X.fs X.ex X.H₀ H X.s₀.heap s.heap
 loc:∃m,s.heap.Ns X.env.locals m∧∀(i:Nat) (x:Str) (v:V),X.N[i]?=some x->σ[i]?=some (some v)->Vis X.env.scope x->∃u,RelV v u∧Look X.env s.heap m x u
 cell:∀x c,X.env.cells.lookup x=some c->∃v,s.heap.IsCell c v
 free:H X.env.locals=none
 freeC:∀x c,X.env.cells.lookup x=some c->H c=none
 pin:∀p∈X.pn++pins,s.heap.get? p.1=some p.2∧H p.1=none∧p.1≠X.env.locals∧p.1∉X.fs∧∀v,p.2.data≠.cell v
 hok:HOk X.prog X.w H s.heap
 len:σ.length=X.N.length
section
variable{X:Cx}{pins:List (Addr×Obj)}{σ:List (Option V)}{H H':Hp}{s:Shared}{h':Heap}
theorem Cx.Ok.nofr(ok:X.Ok){b:Addr}{o:Obj}(e:X.base.get? b=some o):b∉X.fs:=fun hb=>by
 have:=(ok.funs.mem hb).1
 rw[e] at this;cases this
theorem Inv.bs(I:Inv X pins σ H s):∀b o,X.base.get? b=some o->s.heap.get? b=some o∧H b=none:=fun b o e=>
 ⟨I.base.keep b o (I.ok.bs b o e).1 (I.ok.bs b o e).2 (I.ok.nofr e) (I.ok.noex b o e),I.base.free b o (I.ok.bs b o e).1 (I.ok.bs b o e).2 (I.ok.noex b o e)⟩
theorem Inv.bk(I:Inv X pins σ H s):∀b o,X.base.get? b=some o->s.heap.get? b=some o:=fun b o e=>(I.bs b o e).1
theorem Inv.mod(I:Inv X pins σ H s):Mod X.K X.mg X.base:=I.ok.mod
theorem Inv.kIn(I:Inv X pins σ H s):X.K.In s.heap:=I.ok.mod.kin.keeps I.bk
theorem Inv.lt(I:Inv X pins σ H s):X.env.locals<s.heap.objs.size:=let ⟨_,hn,_⟩:=I.loc;hn.lt
theorem Inv.sz(I:Inv X pins σ H s):X.s₀.heap.objs.size≤s.heap.objs.size:=Nat.le_trans I.ok.above (Nat.le_of_lt I.lt)
theorem Inv.nofs(I:Inv X pins σ H s){a:Addr}(h:s.heap.objs.size≤a):a∉X.fs:=fun hb=>by
 obtain⟨_,o,ho,_⟩:=I.ok.funs.mem hb
 exact absurd (Nat.lt_of_lt_of_le (Heap.lt_size ho) (Nat.le_trans I.sz h)) (Nat.lt_irrefl _)
theorem Inv.cne(I:Inv X pins σ H s):∀x c,X.env.cells.lookup x=some c->c≠X.env.locals:=fun x c e z=>by
 obtain⟨v,o,ho,hd⟩:=I.cell x c e
 obtain⟨m,⟨o',es,ep,ho',hd',_⟩,_⟩:=I.loc
 rw[z,ho'] at ho;cases ho;rw[hd'] at hd;cases hd
theorem Inv.funs (I:Inv X pins σ H s):s.heap.FunFrames X.base X.outer:=by
 have all:∀ (l:List Env),(∀ b∈frs l,b∈X.fs)->X.s₀.heap.FunFrames X.base l->s.heap.FunFrames X.base l:=by
  intro l
  induction l with
  |nil=>intro _ _;trivial
  |cons env r ih=>
    intro hs hl
    obtain⟨hk,⟨L,o,hf,hn,ho,hd⟩,hr⟩:=hl
    have hL:L∈X.fs:=hs L (by unfold frs;rw[List.filterMap_cons,hf];exact List.mem_cons_self)
    obtain⟨sl,e⟩:=I.base.slot L o ho (I.ok.frf L hL) hL fun z=>I.ok.exfs L z hL
    exact⟨hk,⟨L,_,hf,hn,e,hd⟩,ih (fun b hb=>hs b (by unfold frs;rw[List.filterMap_cons,hf];exact List.mem_cons_of_mem _ hb)) hr⟩
 exact all X.outer (fun _ hb=>hb) I.ok.funs
theorem Inv.stack(I:Inv X pins σ H s):s.heap.FunFrames X.base X.stack:=by
 rcases I.ok.stk with e | ⟨e,hf⟩
 ·rw[e];exact I.funs
 ·rw[e]
  obtain⟨m,hn,_⟩:=I.loc
  refine .cons (by rw[I.ok.kind];decide) hf hn ?_ I.funs
  exact Heap.get?_none_of_le (Nat.le_trans I.ok.bsz I.ok.above)
theorem Inv.stkSub(I:Inv X pins σ H s):∀b∈frs X.stack,b∈X.env.locals::X.fs:=fun b hb=>by
 rcases I.ok.stk with e | ⟨e,hf⟩
 ·rw[e] at hb;exact List.mem_cons_of_mem _ hb
 ·rw[e] at hb
  unfold frs at hb
  rw[List.filterMap_cons,hf] at hb
  exact hb
theorem Inv.stkFree(I:Inv X pins σ H s):∀b∈frs X.stack,H b=none:=fun b hb=>by
 rcases List.mem_cons.mp (I.stkSub b hb) with e | hb
 ·rw[e];exact I.free
 ·obtain⟨_,o,ho,_⟩:=I.ok.funs.mem hb
  exact I.base.free b o ho (I.ok.frf b hb) fun z=>I.ok.exfs b z hb
theorem Inv.step {g':Array GenState}{t':Nat}{d':Drawn}{ch:List Addr} (I:Inv X pins σ H s)
  (hch:∀b∈ch,(b∈X.ex∨X.s₀.heap.objs.size≤b)∧b≠X.env.locals∧(∀x c,X.env.cells.lookup x=some c->c≠b)∧∀p∈X.pn++pins,p.1≠b)
  (keep:∀b o,b≠X.env.locals->b∉X.fs->b∉ch->s.heap.get? b=some o->H b=none->h'.get? b=some o)
  (slot:∀b o,b≠X.env.locals->b∈X.fs->b∉ch->s.heap.get? b=some o->H b=none->∃sl,h'.get? b=some { o with slots:=sl }) (free:∀b o,b∉ch->s.heap.get? b=some o->H b=none->H' b=none)
  (there:∀b o,b∉ch->s.heap.get? b=some o->∃o',h'.get? b=some o')
  (tups:∀b xs,H b=some (.tup xs)->H' b=some (.tup xs)) (frzs:∀b o u,H b=some (.frz o u)->H' b=some (.frz o u)) (tbls:∀b ps,H b=some (.tbl ps)->∃more,H' b=some (.tbl (ps++more)))
  (ns:∀m,s.heap.Ns X.env.locals m->h'.Ns X.env.locals m) (hok:HOk X.prog X.w H' h') (hg:AllBare g') :
  Inv X pins σ H' { s with heap:=h',gens:=g',drawn:=d',toks:=t' }:=by
 have neL:∀b o,X.s₀.heap.get? b=some o->b≠X.env.locals:=fun b o e=>Nat.ne_of_lt (Nat.lt_of_lt_of_le (Heap.lt_size e) I.ok.above)
 have neC:∀b o,X.s₀.heap.get? b=some o->b∉X.ex->b∉ch:=fun b o e hx hb=>by
  rcases (hch b hb).1 with z | z
  ·exact hx z
  ·exact absurd (Nat.lt_of_lt_of_le (Heap.lt_size e) z) (Nat.lt_irrefl _)
 have cellK:∀x c,X.env.cells.lookup x=some c->∀v,s.heap.IsCell c v->h'.IsCell c v:=fun x c e v ⟨o,ho,hd⟩=>by
  have nch:c∉ch:=fun z=>(hch c z).2.2.1 x c e rfl
  by_cases hc:c∈X.fs
  ·obtain⟨sl,q⟩:=slot c o (I.cne x c e) hc nch ho (I.freeC x c e)
   exact⟨_,q,hd⟩
  ·exact⟨o,keep c o (I.cne x c e) hc nch ho (I.freeC x c e),hd⟩
 refine⟨I.ok,I.os,hg,⟨fun b o e n hb hx=>?_,fun b o e n hb hx=>?_,fun b o e n hx=>?_,fun b o e hx=>?_,fun b xs e=>tups b xs (I.base.tups b xs e),fun b o xs e=>frzs b o xs (I.base.frzs b o xs e),fun b ps e=>?_⟩,?_,fun x c e=>?_,?_,fun x c e=>?_,fun p hp=>?_,hok,I.len⟩
 ·exact keep b o (neL b o e) hb (neC b o e hx) (I.base.keep b o e n hb hx) (I.base.free b o e n hx)
 ·obtain⟨sl,e1⟩:=I.base.slot b o e n hb hx
  obtain⟨sl',e2⟩:=slot b _ (neL b o e) hb (neC b o e hx) e1 (I.base.free b o e n hx)
  exact⟨sl',e2⟩
 ·obtain⟨o',e1⟩:=I.base.there b o e hx
  exact free b o' (neC b o e hx) e1 (I.base.free b o e n hx)
 ·obtain⟨o',e1⟩:=I.base.there b o e hx
  exact there b o' (neC b o e hx) e1
 ·obtain⟨m1,e1⟩:=I.base.tbls b ps e
  obtain⟨m2,e2⟩:=tbls b _ e1
  exact⟨m1++m2,by rw[e2,Array.append_assoc]⟩
 ·obtain⟨m,hn,hl⟩:=I.loc
  refine⟨m,ns m hn,fun i x v e1 e2 e3=>?_⟩
  obtain⟨u,r,l⟩:=hl i x v e1 e2 e3
  refine⟨u,r,?_⟩
  rcases l with l | ⟨k,c,e,z⟩
  ·exact .inl l
  ·exact .inr ⟨k,c,e,cellK x c e _ z⟩
 ·obtain⟨v,z⟩:=I.cell x c e
  exact⟨v,cellK x c e v z⟩
 ·obtain⟨m,⟨o,_,_,ho,_⟩,_⟩:=I.loc
  exact free _ o (fun z=>(hch _ z).2.1 rfl) ho I.free
 ·obtain⟨v,o,ho,hd⟩:=I.cell x c e
  exact free c o (fun z=>(hch c z).2.2.1 x c e rfl) ho (I.freeC x c e)
 ·obtain⟨e,n,ne,nf,d⟩:=I.pin p hp
  have nch:p.1∉ch:=fun z=>(hch p.1 z).2.2.2 p hp rfl
  exact⟨keep p.1 p.2 ne nf nch e n,free p.1 p.2 nch e n,ne,nf,d⟩
theorem Inv.un{t':Nat}(I:Inv X pins σ H s)(u:Un X.fs [] H H' s.heap h')(hok:HOk X.prog X.w H' h'):Inv X pins σ H' { s with heap:=h',toks:=t' }:=by
 obtain⟨m,⟨o,es,ep,ho,r⟩,_⟩:=id I.loc
 obtain⟨sl,hL⟩:=u.any ho I.free (by simp)
 exact I.step (g':=s.gens) (d':=s.drawn) (ch:=[]) (fun _ z=>nomatch z) (fun b o _ hb _ e n=>u.keep b o e n hb (by simp)) (fun b o _ hb _ e n=>u.slot b o e n hb (by simp)) (fun b o _ e n=>u.free b o e n (by simp)) (fun b o _ e=>u.there b o e (by simp)) u.tups u.frzs u.tbls (fun m' hm=>by
  obtain⟨o',es',ep',ho',r'⟩:=hm
  rw[ho] at ho';cases ho'
  exact⟨_,es',ep',hL,r'⟩) hok I.bare
theorem Inv.call{g':Array GenState}{t':Nat}{d':Drawn}{ch:List Addr}(I:Inv X pins σ H s)(u:Un (frs X.stack) ch H H' s.heap h')(hok:HOk X.prog X.w H' h')(hg:AllBare g')
  (hch:∀b∈ch,(b∈X.ex∨X.s₀.heap.objs.size≤b)∧b≠X.env.locals∧(∀x c,X.env.cells.lookup x=some c->c≠b)∧∀p∈X.pn++pins,p.1≠b) :
  Inv X pins σ H' { s with heap:=h',gens:=g',drawn:=d',toks:=t' }:=by
 obtain⟨m,⟨o,es,ep,ho,r⟩,_⟩:=id I.loc
 obtain⟨sl,hL⟩:=u.any ho I.free fun z=>(hch _ z).2.1 rfl
 exact I.step (ch:=ch) hch (fun b o hL hb hc e n=>u.keep b o e n (fun z=>(List.mem_cons.mp (I.stkSub b z)).elim hL hb) hc) (fun b o _ _ hc e n=>u.any e n hc) (fun b o hc e n=>u.free b o e n hc) (fun b o hc e=>u.there b o e hc) u.tups u.frzs u.tbls (fun m' hm=>by
  obtain⟨o',es',ep',ho',r'⟩:=hm
  rw[ho] at ho';cases ho'
  exact⟨_,es',ep',hL,r'⟩) hok hg
theorem Inv.turned{t':Nat}{it:Addr}(I:Inv X pins σ H s)(k:∀b o,b≠it->s.heap.get? b=some o->h'.get? b=some o)(hn:H it=none)(hL:it≠X.env.locals)
  (h1:it∈X.ex∨X.s₀.heap.objs.size≤it) (h2:∀x c,X.env.cells.lookup x=some c->c≠it) (h3:∀p∈X.pn++pins,p.1≠it):Inv X pins σ H { s with heap:=h',toks:=t' }:=by
 have nit:∀b u,H b=some u->b≠it:=fun b u e z=>by rw[z,hn] at e;cases e
 refine I.step (g':=s.gens) (d':=s.drawn) (ch:=[it]) (fun b hb=>?_) (fun b o _ _ hc e _=>k b o (fun z=>hc (by simp[z])) e) (fun b o _ _ hc e _=>⟨o.slots,k b o (fun z=>hc (by simp[z])) e⟩) (fun _ _ _ _ n=>n)
  (fun b o hc e=>⟨o,k b o (fun z=>hc (by simp[z])) e⟩) (fun _ _ e=>e) (fun _ _ _ e=>e) (fun b ps e=>⟨#[],by rw[e];simp⟩) (fun m hm=>?_) (fun b u e=>?_) I.bare
 ·have e:b=it:=by simpa using hb
  subst e
  exact⟨h1,hL,h2,h3⟩
 ·obtain⟨o,es,ep,ho,r⟩:=hm
  exact⟨o,es,ep,k _ o (Ne.symm hL) ho,r⟩
 ·refine (I.hok b u e).stay (fun c v hc q=>k c v ?_ q) (fun _ q=>q) fun _ _ q=>q
  rcases hc with z | z
  ·rw[z];exact nit b u e
  ·exact nit c _ z
theorem Inv.tok(I:Inv X pins σ H s)(t:Nat):Inv X pins σ H { s with toks:=t }:=I.un (h':=s.heap) (t':=t) Un.refl I.hok
theorem Inv.kept{t':Nat}(I:Inv X pins σ H s)(k:∀b u,s.heap.get? b=some u->h'.get? b=some u):Inv X pins σ H { s with heap:=h',toks:=t' }:=I.un (Un.kept k) (I.hok.kept k)
theorem Inv.laid{a:Addr}{o:HO}{t':Nat}(I:Inv X pins σ H s)(k:∀b u,s.heap.get? b=some u->h'.get? b=some u)(hp:s.heap.objs.size≤a)(new:ObjOk X.prog X.w (upd H a o) h' a o) :
  Inv X pins σ (upd H a o) { s with heap:=h',toks:=t' }:=I.un (Un.laid k hp (I.hok.fresh hp)) (I.hok.laid k hp new)
theorem Inv.write{x e:Addr}{o:HO}{t':Nat}(I:Inv X pins σ H s)(mu:Mut (H x))(he:e=x∨H e=some (.own x))(k:∀b u,b≠e->s.heap.get? b=some u->h'.get? b=some u)(heo:∃u,h'.get? e=some u)
  (new:ObjOk X.prog X.w (upd H x o) h' x o):Inv X pins σ (upd H x o) { s with heap:=h',toks:=t' }:=I.un (Un.write mu he k heo) (I.hok.write mu he k heo new)
theorem Inv.pins_of{pins':List (Addr×Obj)}(I:Inv X pins σ H s)(h:∀p∈pins',s.heap.get? p.1=some p.2∧H p.1=none∧p.1≠X.env.locals∧p.1∉X.fs∧∀v,p.2.data≠.cell v):Inv X pins' σ H s:=
 ⟨I.ok,I.os,I.bare,I.base,I.loc,I.cell,I.free,I.freeC,fun p hp=>(List.mem_append.mp hp).elim (fun z=>I.pin p (List.mem_append_left _ z)) (h p),I.hok,I.len⟩
theorem nodup_ix{N:List Str}(hN:N.Nodup){i j:Nat}{x:Str}(a:N[i]?=some x)(b:N[j]?=some x):i=j:=by
 obtain⟨h1,e1⟩:=List.getElem?_eq_some_iff.mp a
 obtain⟨h2,e2⟩:=List.getElem?_eq_some_iff.mp b
 exact (List.getElem_inj hN).mp (e1.trans e2.symm)
theorem store_ok2 {M:Model}{A:Around}{E:Value->Shared->Prop}{i:Nat}{x:Str}{v:V}{u:Value}{Q:Unit->Shared->Prop} (I:Inv X pins σ H s) (hN:X.N.Nodup) (hi:X.N[i]?=some x) (hx:Loc X.env.scope x) (r:RelV v u)
  (h:∀s',Inv X pins (σ.set i (some v)) H s'->(∃a,Heap.SameBut a s.heap s'.heap∧(a=X.env.locals∨X.env.cells.lookup x=some a))->Q () s') (hf:X.fn x=true∨X.env.scope.names.lookup x=some .local:=by first | exact .inl rfl | exact .inr rfl | assumption):wpAny M A (storeName X.env x u) Q E s:=by
 obtain⟨m,hn,hl⟩:=id I.loc
 have hcls:(X.env.scope.kind==.class || (X.env.scope.kind==.module&&X.env.locals != X.env.globals))=false:=by rw[I.ok.kind];rfl
 have hiσ:i<σ.length:=by rw[I.len];exact (List.getElem?_eq_some_iff.mp hi).1
 have cne:=I.cne
 have tracked:∀{a:Addr}{h':Heap},(∃o,s.heap.get? a=some o∧H a=none)->Heap.SameBut a s.heap h'->HOk X.prog X.w H h':=fun {a h'} ha hs b ob e=>by
  obtain⟨_,_,hfree⟩:=ha
  refine (I.hok b ob e).stay (fun c w' hc q=>(hs.2 c ?_).trans q) (fun _ q=>q) fun _ _ q=>q
  rintro rfl
  rcases hc with rfl | hc
  ·rw[hfree] at e;cases e
  ·rw[hfree] at hc;cases hc
 rcases hx with hk | hk
 ·refine wpAny_storeName_local hk hn (fun h' hn' hs=>?_) hcls
  obtain⟨oL,_,_,hoL,_⟩:=id hn
  refine h _ ⟨I.ok,I.os,I.bare,⟨fun b o e n hb hx=>?_,fun b o e n hb hx=>?_,I.base.free,fun b o e hx=>?_,I.base.tups,I.base.frzs,I.base.tbls⟩,⟨_,hn',fun j y v' e1 e2 e3=>?_⟩,fun y c e=>?_,I.free,I.freeC,fun p hp=>?_,tracked ⟨oL,hoL,I.free⟩ hs,by simpa using I.len⟩ ⟨_,hs,.inl rfl⟩
  ·exact (hs.2 b (Nat.ne_of_lt (Nat.lt_of_lt_of_le (Heap.lt_size e) I.ok.above))).trans (I.base.keep b o e n hb hx)
  ·obtain⟨sl,e1⟩:=I.base.slot b o e n hb hx
   exact⟨sl,(hs.2 b (Nat.ne_of_lt (Nat.lt_of_lt_of_le (Heap.lt_size e) I.ok.above))).trans e1⟩
  ·obtain⟨o',e1⟩:=I.base.there b o e hx
   exact⟨o',(hs.2 b (Nat.ne_of_lt (Nat.lt_of_lt_of_le (Heap.lt_size e) I.ok.above))).trans e1⟩
  ·by_cases hj:j=i
   ·subst hj
    rw[hi] at e1;cases e1
    rw[List.getElem?_set_self hiσ] at e2
    cases e2
    exact⟨u,r,.inl ⟨hk,by simp⟩⟩
   ·rw[List.getElem?_set_ne (Ne.symm hj)] at e2
    obtain⟨u',r',q⟩:=hl j y v' e1 e2 e3
    refine⟨u',r',?_⟩
    rcases q with ⟨k,e⟩ | ⟨k,c,e,z⟩
    ·refine .inl ⟨k,?_⟩
     have:y≠x:=fun e=>hj (nodup_ix hN e1 (e ▸ hi))
     simp[this,e]
    ·exact .inr ⟨k,c,e,z.sameBut hs (cne y c e)⟩
  ·obtain⟨w',z⟩:=I.cell y c e
   exact⟨w',z.sameBut hs (cne y c e)⟩
  ·obtain⟨e,n,ne,nf,d⟩:=I.pin p hp
   exact⟨(hs.2 p.1 ne).trans e,n,ne,nf,d⟩
 ·have hfn:X.fn x=true:=by
   rcases hf with z | z
   ·exact z
   ·rw[z] at hk;cases hk
  obtain⟨c,hc⟩:=I.ok.has x (.inl hk)
  obtain⟨w',z⟩:=I.cell x c hc
  refine wpAny_storeName_cell I.ok.kind hk hc z (fun h' hc' hs=>?_)
  obtain⟨oc,hoc,hocd⟩:=id z
  refine h { s with heap:=h' } ⟨I.ok,I.os,I.bare,⟨fun b o e n hb hx=>?_,fun b o e n hb hx=>?_,I.base.free,fun b o e hx=>?_,I.base.tups,I.base.frzs,I.base.tbls⟩,⟨m,hn.sameBut hs (Ne.symm (cne x c hc)),fun j y v' e1 e2 e3=>?_⟩,fun y c' e=>?_,I.free,I.freeC,fun p hp=>?_,tracked ⟨oc,hoc,I.freeC x c hc⟩ hs,by simpa using I.len⟩ ⟨c,hs,.inr hc⟩
  ·exact (hs.2 b (Nat.ne_of_lt (Nat.lt_of_lt_of_le (Heap.lt_size e) (I.ok.cab x c hfn hc)))).trans (I.base.keep b o e n hb hx)
  ·obtain⟨sl,e1⟩:=I.base.slot b o e n hb hx
   exact⟨sl,(hs.2 b (Nat.ne_of_lt (Nat.lt_of_lt_of_le (Heap.lt_size e) (I.ok.cab x c hfn hc)))).trans e1⟩
  ·obtain⟨o',e1⟩:=I.base.there b o e hx
   exact⟨o',(hs.2 b (Nat.ne_of_lt (Nat.lt_of_lt_of_le (Heap.lt_size e) (I.ok.cab x c hfn hc)))).trans e1⟩
  ·by_cases hj:j=i
   ·subst hj
    rw[hi] at e1;cases e1
    rw[List.getElem?_set_self hiσ] at e2
    cases e2
    exact⟨u,r,.inr ⟨.inl hk,c,hc,hc'⟩⟩
   ·rw[List.getElem?_set_ne (Ne.symm hj)] at e2
    obtain⟨u',r',q⟩:=hl j y v' e1 e2 e3
    refine⟨u',r',?_⟩
    rcases q with q | ⟨k,c',e,z'⟩
    ·exact .inl q
    ·refine .inr ⟨k,c',e,z'.sameBut hs ?_⟩
     rintro rfl
     exact hj (nodup_ix hN e1 (I.ok.inj _ _ _ e hc ▸ hi))
  ·by_cases hcc:c'=c
   ·subst hcc;exact⟨_,hc'⟩
   ·obtain⟨w2,z2⟩:=I.cell y c' e
    exact⟨w2,z2.sameBut hs hcc⟩
  ·obtain⟨e,n,ne,nf,d⟩:=I.pin p hp
   refine⟨(hs.2 p.1 ?_).trans e,n,ne,nf,d⟩
   intro q
   rw[q,hoc] at e
   have q':oc=p.2:=Option.some.inj e
   exact d w' (by rw[←q'];exact hocd)
theorem store_ok{M:Model}{A:Around}{E:Value->Shared->Prop}{i:Nat}{x:Str}{v:V}{u:Value}{Q:Unit->Shared->Prop}(I:Inv X pins σ H s)(hN:X.N.Nodup)(hi:X.N[i]?=some x)(hx:Loc X.env.scope x)(r:RelV v u)
  (h:∀s',Inv X pins (σ.set i (some v)) H s'->Q () s') (hf:X.fn x=true∨X.env.scope.names.lookup x=some .local:=by first | exact .inl rfl | exact .inr rfl | assumption):wpAny M A (storeName X.env x u) Q E s:=
 store_ok2 I hN hi hx r (fun s' I' _=>h s' I') hf
theorem Inv.call'{s':Shared}{ch:List Addr}(I:Inv X pins σ H s)(ho:s'.os=s.os)(u:Un (frs X.stack) ch H H' s.heap s'.heap)(hok:HOk X.prog X.w H' s'.heap)(hg:AllBare s'.gens)
  (hch:∀b∈ch,(b∈X.ex∨X.s₀.heap.objs.size≤b)∧b≠X.env.locals∧(∀x c,X.env.cells.lookup x=some c->c≠b)∧∀p∈X.pn++pins,p.1≠b):Inv X pins σ H' s':=by
 obtain⟨h',g',d',t',o'⟩:=s'
 have e:o'=s.os:=ho
 subst e
 exact I.call (g':=g') (t':=t') (d':=d') u hok hg hch
end
abbrev XK:=Value->Option Addr->Hp->Prop
abbrev St:=List (Option V)
abbrev VK:=V->Hp->Prop
abbrev TE:=St->Hp->VK->Prop
abbrev TT:=St->Hp->(Bool->Hp->Prop)->Prop
abbrev TA:=St->Hp->(List V->Hp->Prop)->Prop
structure Ends where
 nx:St->Hp->Prop
 rt:VK
 bk:St->Hp->Prop:=fun _ _=>False
 ct:St->Hp->Prop:=fun _ _=>False
abbrev TS:=Ends->St->Hp->Prop
def EP(X:Cx)(pins:List (Addr×Obj))(σ:St)(Q:VK)(u:Value)(s':Shared):Prop:=∃v H',Inv X pins σ H' s'∧RelV v u∧Q v H'
def TP(X:Cx)(pins:List (Addr×Obj))(σ:St)(Q:Bool->Hp->Prop)(b:Bool)(s':Shared):Prop:=∃H',Inv X pins σ H' s'∧Q b H'
def AP(X:Cx)(pins:List (Addr×Obj))(σ:St)(Q:List V->Hp->Prop)(us:List Value)(s':Shared):Prop:=∃vs H',Inv X pins σ H' s'∧Vals vs us∧Q vs H'
def SP(X:Cx)(pins:List (Addr×Obj))(D:Ends)(f:Flow)(s':Shared):Prop:=
 match f with
 |.next=>∃σ' H',Inv X pins σ' H' s'∧D.nx σ' H'
 |.brk=>∃σ' H',Inv X pins σ' H' s'∧D.bk σ' H'
 |.cont=>∃σ' H',Inv X pins σ' H' s'∧D.ct σ' H'
 |.ret u=>∃v σ' H',Inv X pins σ' H' s'∧RelV v u∧D.rt v H'
def PE(X:Cx)(e:Expr)(t:TE):Prop:=
 ∀(pins:List (Addr×Obj)) (s:Shared) (σ:St) (H:Hp) (Q:VK),Inv X pins σ H s->t σ H Q->wpAny (model X.prog X.w) X.A (eval e X.env) (EP X pins σ Q) X.xe s
def PT(X:Cx)(e:Expr)(t:TT):Prop:=
 ∀(pins:List (Addr×Obj)) (s:Shared) (σ:St) (H:Hp) (Q:Bool->Hp->Prop),Inv X pins σ H s->t σ H Q->wpAny (model X.prog X.w) X.A (isTrue e X.env (eval e X.env)) (TP X pins σ Q) X.xe s
def PW(X:Cx)(e:Expr)(t:TT):Prop:=
 ∀(whole:Sem Value) (pins:List (Addr×Obj)) (s:Shared) (σ:St) (H:Hp) (Q:Bool->Hp->Prop),Inv X pins σ H s->t σ H Q->wpAny (model X.prog X.w) X.A (isTrue e X.env whole) (TP X pins σ Q) X.xe s
theorem PW.pt{X:Cx}{e:Expr}{t:TT}(h:PW X e t):PT X e t:=h _
def PA(X:Cx)(es:List Expr)(t:TA):Prop:=
 ∀(pos:Pos) (pins:List (Addr×Obj)) (s:Shared) (σ:St) (H:Hp) (Q:List V->Hp->Prop),Inv X pins σ H s->t σ H Q->wpAny (model X.prog X.w) X.A (spliced (backTo pos (starEach es X.env))) (AP X pins σ Q) X.xe s
def PS(X:Cx)(st:Stmt)(t:TS):Prop:=
 ∀(pins:List (Addr×Obj)) (s:Shared) (σ:St) (H:Hp) (D:Ends),Inv X pins σ H s->t D σ H->wpAny (model X.prog X.w) X.A (exec st X.env) (SP X pins D) X.xe s
def PSs(X:Cx)(st:List Stmt)(t:TS):Prop:=
 ∀(pins:List (Addr×Obj)) (s:Shared) (σ:St) (H:Hp) (D:Ends),Inv X pins σ H s->t D σ H->wpAny (model X.prog X.w) X.A (execs st X.env) (SP X pins D) X.xe s
theorem thn{α:Type}{t:Sem α}{Q Q':α->Shared->Prop}{M:Model}{A:Around}{E:Value->Shared->Prop}{s:Shared}(h:wpAny M A t Q E s)(hQ:∀a s,Q a s->Q' a s):wpAny M A t Q' E s:=wpAny_mono h hQ fun _ _ x=>x
open PySem PySem.Spec PyProof.Rows
section
variable{X:Cx}
theorem bin{a b:Expr}{ta tb:TE}(ha:PE X a ta)(hb:PE X b tb){pins:List (Addr×Obj)}{s:Shared}{σ:St}{H:Hp}{R:V->V->Hp->Prop}(I:Inv X pins σ H s)(h:ta σ H fun x H1=>tb σ H1 fun y H2=>R x y H2)
  {α:Type}{Q:α->Shared->Prop}{f:Value->Value->Sem α}
  (hf:∀v u s2 x y H2,Inv X pins σ H2 s2->RelV x v->RelV y u->R x y H2->wpAny (model X.prog X.w) X.A (f v u) Q X.xe s2) :
  wpAny (model X.prog X.w) X.A (eval a X.env) (fun v s₁=>wpAny (model X.prog X.w) X.A (eval b X.env) (fun u s₂=>wpAny (model X.prog X.w) X.A (f v u) Q X.xe s₂) X.xe s₁) X.xe s:=by
 refine thn (ha pins s σ H _ I h) fun v s1 ⟨x,H1,I1,r1,q1⟩=>?_
 refine thn (hb pins s1 σ H1 _ I1 q1) fun u s2 ⟨y,H2,I2,r2,q2⟩=>?_
 exact hf v u s2 x y H2 I2 r1 r2 q2
def tVar(i:Nat):TE:=fun σ H Q=>∃v,σ[i]?=some (some v)∧Q v H
def tC(v:V):TE:=fun _ H Q=>Q v H
theorem pe_var{i:Nat}{x:Str}{pos:Pos}(hN:X.N[i]?=some x)(hv:Vis X.env.scope x)(hd:(x==("__debug__":Str))=false:=by decide)(hcd:(x==("__classdict__":Str))=false:=by decide):PE X (.Name x pos) (tVar i):=by
 intro pins s σ H Q I h
 obtain⟨v,e,h⟩:=h
 obtain⟨m,hn,hl⟩:=I.loc
 obtain⟨u,r,l⟩:=hl i x v hN e hv
 have fin:EP X pins σ Q u s:=⟨v,H,I,r,h⟩
 rcases l with ⟨hk,hm⟩ | ⟨hk,c,hc,hcell⟩
 ·exact wpAny_Name (wpAny_loadName_local I.ok.kind hk hn hm fin) hd
 ·rcases hk with hk | hk
  ·exact wpAny_Name (wpAny_loadName_cell I.ok.kind hk hc hcell fin) hd
  ·exact wpAny_Name (wpAny_loadName_free I.ok.kind hk hc hcell fin hcd) hd
theorem pe_int{i j pos}:PE X (.Constant (.int i) j pos) (tC (.int i)):=fun _ _ _ H _ I h=>wpAny_Constant_int ⟨.int i,H,I.tok _,⟨_,rfl⟩,h⟩
theorem pe_bl{b j pos}:PE X (.Constant (.bool b) j pos) (tC (.bl b)):=fun _ _ _ H _ I h=>Constant_bool ⟨.bl b,H,I,rfl,h⟩
theorem pe_non{j pos}:PE X (.Constant .none j pos) (tC .non):=fun _ _ _ H _ I h=>Constant_none ⟨.non,H,I,rfl,h⟩
theorem pe_str{x j pos}:PE X (.Constant (.str x) j pos) (tC (.str x)):=fun _ _ _ H _ I h=>Calls.Constant_str ⟨.str x,H,I.tok _,⟨_,rfl⟩,h⟩
def Gl(X:Cx)(x:Str):Prop:=X.env.kindOf x=some .globalImplicit
theorem ld_glob{E:Value->Shared->Prop}{pins:List (Addr×Obj)}{s:Shared}{σ:St}{H:Hp}{x:Str}{u:Value}{pos:Pos}{Q:Value->Shared->Prop}(I:Inv X pins σ H s)(hg:Gl X x)(hm:X.mg x=some u)(h:Q u s)
  (hd:(x==("__debug__":Str))=false:=by decide):wpAny (model X.prog X.w) X.A (eval (.Name x pos) X.env) Q E s:=
 Calls.Name_function_global I.ok.kind hg (Calls.loadGlobal_global (by rw[I.ok.glob];exact I.mod.glob.keeps I.bk) hm h) hd
theorem ld_blt{E:Value->Shared->Prop}{pins:List (Addr×Obj)}{s:Shared}{σ:St}{H:Hp}{x:Str}{u:Value}{pos:Pos}{Q:Value->Shared->Prop}(I:Inv X pins σ H s)(hg:Gl X x)(hm:X.mg x=none)(hv:bootBuiltins x=some u)(h:Q u s)
  (hn:x≠"__name__":=by decide) (hd:(x==("__debug__":Str))=false:=by decide):wpAny (model X.prog X.w) X.A (eval (.Name x pos) X.env) Q E s:=by
 obtain⟨mb,h1,h2⟩:=I.mod.blt
 exact Calls.Name_function_global I.ok.kind hg (Calls.loadGlobal_builtin (by rw[I.ok.glob];exact I.mod.glob.keeps I.bk) hm (by rw[I.ok.blt];exact h1.keeps I.bk) ((h2 x hn).trans hv) h) hd
theorem pe_glob{x:Str}{v:V}{u:Value}{pos:Pos}(hg:Gl X x)(hm:X.mg x=some u)(r:RelV v u)(hd:(x==("__debug__":Str))=false:=by decide):PE X (.Name x pos) (tC v):=
 fun _ _ _ H _ I h=>ld_glob I hg hm ⟨v,H,I,r,h⟩ hd
theorem pe_bltn{x:Str}{v:V}{u:Value}{pos:Pos}(hg:Gl X x)(hm:X.mg x=none)(hv:bootBuiltins x=some u)(r:RelV v u)(hn:x≠"__name__":=by decide)(hd:(x==("__debug__":Str))=false:=by decide):PE X (.Name x pos) (tC v):=
 fun _ _ _ H _ I h=>ld_blt I hg hm hv ⟨v,H,I,r,h⟩ hn hd
variable{a b:Expr}{ta tb:TE}{pos:Pos}
variable{tA tB':TT}{rest:List Expr}
def tAnd(t u:TT):TT:=fun σ H Q=>t σ H fun c H1=>if c=true then u σ H1 Q else Q false H1
def tOr(t u:TT):TT:=fun σ H Q=>t σ H fun c H1=>if c=true then Q true H1 else u σ H1 Q
def tNot(t:TT):TT:=fun σ H Q=>t σ H fun c H1=>Q (!c) H1
theorem pw_and1(ha:PT X a tA):PW X (.BoolOp .And [a] pos) tA:=by
 intro wh pins s σ H Q I h
 refine isTrue_and (thn (ha pins s σ H Q I h) fun c s1 e=>?_)
 cases c with
 |true=>exact isTrue_and_nil e
 |false=>exact e
theorem pw_or1(ha:PT X a tA):PW X (.BoolOp .Or [a] pos) tA:=by
 intro wh pins s σ H Q I h
 refine isTrue_or (thn (ha pins s σ H Q I h) fun c s1 e=>?_)
 cases c with
 |false=>exact isTrue_or_nil e
 |true=>exact e
theorem pw_and(ha:PT X a tA)(hb:PW X (.BoolOp .And (b::rest) pos) tB'):PW X (.BoolOp .And (a::b::rest) pos) (tAnd tA tB'):=by
 intro wh pins s σ H Q I h
 refine isTrue_and (thn (ha pins s σ H _ I h) fun c s1 ⟨H1,I1,q1⟩=>?_)
 cases c with
 |true=>exact hb wh pins s1 σ H1 Q I1 q1
 |false=>exact⟨H1,I1,q1⟩
theorem pw_or(ha:PT X a tA)(hb:PW X (.BoolOp .Or (b::rest) pos) tB'):PW X (.BoolOp .Or (a::b::rest) pos) (tOr tA tB'):=by
 intro wh pins s σ H Q I h
 refine isTrue_or (thn (ha pins s σ H _ I h) fun c s1 ⟨H1,I1,q1⟩=>?_)
 cases c with
 |true=>exact⟨H1,I1,q1⟩
 |false=>exact hb wh pins s1 σ H1 Q I1 q1
theorem pt_not(ha:PT X a tA):PT X (.UnaryOp .Not a pos) (tNot tA):=by
 intro pins s σ H Q I h
 exact isTrue_not (ha pins s σ H (fun c H1=>Q (!c) H1) I h)
def tAndV(ta tb:TE):TE:=fun σ H Q=>ta σ H fun x H1=>∃c,x=.bl c∧if c=true then tb σ H1 Q else Q (.bl false) H1
def tNotV(ta:TE):TE:=fun σ H Q=>ta σ H fun x H1=>∃c,x=.bl c∧Q (.bl (!c)) H1
theorem pe_one{op}{t:TE}(h:PE X a t):PE X (.BoolOp op [a] pos) t:=fun pins s σ H Q I hw=>BoolOp_one (h pins s σ H Q I hw)
theorem pe_and(ha:PE X a ta)(hb:PE X (.BoolOp .And (b::rest) pos) tb):PE X (.BoolOp .And (a::b::rest) pos) (tAndV ta tb):=by
 intro pins s σ H Q I h
 refine BoolOp_and (thn (ha pins s σ H _ I h) fun v s1 ⟨x,H1,I1,r1,q1⟩=>?_)
 obtain⟨c,rfl,q1⟩:=q1
 cases r1
 refine wpAny_truthy_bool ?_
 cases c with
 |true=>exact hb pins s1 σ H1 Q I1 q1
 |false=>exact⟨.bl false,H1,I1,rfl,q1⟩
theorem pe_not(ha:PE X a ta):PE X (.UnaryOp .Not a pos) (tNotV ta):=by
 intro pins s σ H Q I h
 refine UnaryOp_ (thn (ha pins s σ H _ I h) fun v s1 ⟨x,H1,I1,r1,q1⟩=>?_)
 obtain⟨c,rfl,q1⟩:=q1
 cases r1
 exact not_of (wpAny_truthy_bool ⟨.bl (!c),H1,I1,rfl,q1⟩)
end
open PySem PySem.Spec PyProof.Rows
def SqL(K:PySem.W.Frag)(H:Hp)(a:Addr)(xs:List V):Prop:=
 Rd H a (.lst xs) ∨
  ∃(o:Obj) (its:Array Value) (n:Nat),K.lookup a=some o∧o.cls=.type "list"∧o.dict=none∧o.data=.seq its n∧its.size≤sizeLine∧Vals xs its.toList
def SqT(K:PySem.W.Frag)(H:Hp)(a:Addr)(xs:List V):Prop:=
 Rd H a (.tup xs) ∨
  ∃(o:Obj) (its:Array Value) (n:Nat),K.lookup a=some o∧o.cls=.type "tuple"∧o.data=.seq its n∧its.size≤sizeLine∧Vals xs its.toList
def absV:Value->Option V
 |.none=>some .non
 |.bool b=>some (.bl b)
 |.int i _=>some (.int i)
 |.str x _=>some (.str x)
 |.bytes b _=>some (.byt b)
 |.float b _=>some (.flt b)
 |.ref a=>some (.ref a)
 |.type n=>some (.ty n)
 |_=>none
theorem RelV.abs{x:V}{u:Value}(r:RelV x u):absV u=some x:=by
 cases x with
 |non=>cases r;rfl
 |bl _=>cases r;rfl
 |int _=>obtain⟨t,rfl⟩:=r;rfl
 |str _=>obtain⟨t,rfl⟩:=r;rfl
 |byt _=>obtain⟨t,rfl⟩:=r;rfl
 |flt _=>obtain⟨t,rfl⟩:=r;rfl
 |ref _=>cases r;rfl
 |ty _=>cases r;rfl
theorem RelV.inj{x y:V}{u:Value}(r:RelV x u)(q:RelV y u):x=y:=Option.some.inj (r.abs.symm.trans q.abs)
theorem Vals.inj:∀{xs ys:List V}{us:List Value},Vals xs us->Vals ys us->xs=ys
 |_,_,_,.nil,.nil=>rfl
 |_,_,_,.cons r t,.cons r' t'=>by rw[r.inj r',Vals.inj t t']
section
variable{X:Cx}{pins:List (Addr×Obj)}{σ:St}{H:Hp}{s:Shared}{a:Addr}{xs ys:List V}
theorem SqL.of{K:PySem.W.Frag}(h:H a=some (.lst xs)):SqL K H a xs:=.inl (.inl h)
theorem SqT.of{K:PySem.W.Frag}(h:H a=some (.tup xs)):SqT K H a xs:=.inl (.inl h)
theorem Inv.list(I:Inv X pins σ H s)(h:SqL X.K H a xs):∃its:List Value,Vals xs its∧PlainL s.heap a its.toArray∧xs.length≤sizeLine:=by
 rcases h with h | ⟨o,its,n,hk,hc,hd,hs,hz,r⟩
 ·obtain⟨z,its,n,r,e⟩:=h.ok I.hok
  exact⟨its,r,⟨_,n,e,rfl,rfl,rfl⟩,z⟩
 ·refine⟨its.toList,r,⟨o,n,I.kIn a o hk,hc,hd,by simpa using hs⟩,?_⟩
  have e:=r.length
  simp only[Array.length_toList] at e
  omega
theorem Inv.tuple(I:Inv X pins σ H s)(h:SqT X.K H a xs):∃its:List Value,Vals xs its∧IsTup s.heap a its.toArray∧xs.length≤sizeLine:=by
 rcases h with h | ⟨o,its,n,hk,hc,hs,hz,r⟩
 ·obtain⟨z,its,r,p⟩:=h.ok I.hok
  exact⟨its,r,p,z⟩
 ·refine⟨its.toList,r,⟨o,I.kIn a o hk,hc,n,by simpa using hs⟩,?_⟩
  have e:=r.length
  simp only[Array.length_toList] at e
  omega
theorem Inv.list_inj(I:Inv X pins σ H s)(h:SqL X.K H a xs)(h':SqL X.K H a ys):xs=ys:=by
 obtain⟨its,r,⟨o,n,e,_,_,d⟩,_⟩:=I.list h
 obtain⟨its',r',⟨o',n',e',_,_,d'⟩,_⟩:=I.list h'
 rw[e] at e';cases e'
 rw[d] at d'
 injection d' with d1 _
 have:its=its':=by simpa using congrArg Array.toList d1
 subst this
 exact r.inj r'
theorem Inv.tuple_inj(I:Inv X pins σ H s)(h:SqT X.K H a xs)(h':SqT X.K H a ys):xs=ys:=by
 obtain⟨its,r,⟨o,e,_,n,d⟩,_⟩:=I.tuple h
 obtain⟨its',r',⟨o',e',_,n',d'⟩,_⟩:=I.tuple h'
 rw[e] at e';cases e'
 rw[d] at d'
 injection d' with d1 _
 have:its=its':=by simpa using congrArg Array.toList d1
 subst this
 exact r.inj r'
end
section
variable{X:Cx}{st:Stmt}{rest:List Stmt}{t u:TS}{e:Expr}{te:TE}{pos:Pos}
def tNext:TS:=fun D σ H=>D.nx σ H
def tSeq(t u:TS):TS:=fun D σ H=>t { D with nx:=u D } σ H
theorem pss_nil:PSs X [] tNext:=fun _ _ σ H _ I h=>wpAny_execs_nil ⟨σ,H,I,h⟩
theorem pss_cons (h1:PS X st t) (h2:PSs X rest u):PSs X (st::rest) (tSeq t u):=by
 intro pins s σ H D I h
 refine wpAny_execs_cons (thn (h1 pins s σ H { D with nx:=u D } I h) fun f s1 q=>?_)
 cases f with
 |next=>
   obtain⟨σ',H',I',q⟩:=q
   exact h2 pins s1 σ' H' D I' q
 |ret v=>exact q
 |brk=>exact q
 |cont=>exact q
theorem pss_one(h1:PS X st t):PSs X [st] t:=by
 intro pins s σ H D I h
 refine wpAny_execs_cons (thn (h1 pins s σ H D I h) fun f s1 q=>?_)
 cases f with
 |next=>exact wpAny_execs_nil q
 |ret v=>exact q
 |brk=>exact q
 |cont=>exact q
theorem Inv.quiet{pins:List (Addr×Obj)}{σ:St}{H:Hp}{s:Shared}(I:Inv X pins σ H s):interactive X.env=false:=by simp[interactive,I.ok.kind]
def tDrop(te:TE):TS:=fun D σ H=>te σ H fun _ H1=>D.nx σ H1
theorem ps_expr(he:PE X e te)(hs:swapsWith e none pos.line X.env=pure false:=by rfl):PS X (.Expr e pos) (tDrop te):=by
 intro pins s σ H D I h
 exact wpAny_Expr_any (thn (he pins s σ H _ I h) fun v s1 ⟨x,H1,I1,r1,q1⟩=>⟨σ,H1,I1,q1⟩) I.quiet hs
def tRet(te:TE):TS:=fun D σ H=>te σ H D.rt
theorem ps_ret(he:PE X e te):PS X (.Return (some e) pos) (tRet te):=by
 intro pins s σ H D I h
 exact wpAny_Return_some (thn (he pins s σ H _ I h) fun v s1 ⟨x,H1,I1,r1,q1⟩=>⟨x,σ,H1,I1,r1,q1⟩)
def tIfS(c:TT)(t u:TS):TS:=fun D σ H=>c σ H fun b H1=>if b=true then t D σ H1 else u D σ H1
theorem ps_if{c:Expr}{a b:List Stmt}{tc:TT}(hc:PT X c tc)(ha:PSs X a t)(hb:PSs X b u):PS X (.If c a b pos) (tIfS tc t u):=by
 intro pins s σ H D I h
 refine wpAny_If (thn (hc pins s σ H _ I h) fun d s1 ⟨H1,I1,q1⟩=>?_)
 cases d with
 |true=>exact ha pins s1 σ H1 D I1 q1
 |false=>exact hb pins s1 σ H1 D I1 q1
end
abbrev TG:=V->St->Hp->(St->Hp->Prop)->Prop
abbrev TGs:=List V->St->Hp->(St->Hp->Prop)->Prop
def PG (X:Cx) (target:Expr) (t:TG):Prop:=
 ∀(pins:List (Addr×Obj)) (s:Shared) (σ:St) (H:Hp) (v:V) (u:Value) (Q:St->Hp->Prop),Inv X pins σ H s->RelV v u->t v σ H Q->
   wpAny (model X.prog X.w) X.A (assign target X.env u) (fun _ s'=>∃σ' H',Inv X pins σ' H' s'∧Q σ' H') X.xe s
def PGs (X:Cx) (ts:List Expr) (t:TGs):Prop:=
 ∀(pins:List (Addr×Obj)) (s:Shared) (σ:St) (H:Hp) (vs:List V) (us:List Value) (Q:St->Hp->Prop),Inv X pins σ H s->Vals vs us->t vs σ H Q->
   wpAny (model X.prog X.w) X.A (assignInOrder ((assignEach ts X.env).map (·.2)) us) (fun _ s'=>∃σ' H',Inv X pins σ' H' s'∧Q σ' H') X.xe s
abbrev TSet:=V->V->V->Hp->(Hp->Prop)->Prop
def PSet (X:Cx) (t:TSet):Prop:=
 ∀(pins:List (Addr×Obj)) (s:Shared) (σ:St) (H:Hp) (o i v:V) (ov iv u:Value) (Q:Hp->Prop),Inv X pins σ H s->RelV o ov->RelV i iv->RelV v u->t o i v H Q->
   wpAny (model X.prog X.w) X.A (setItem ov iv u) (fun _ s'=>∃H',Inv X pins σ H' s'∧Q H') X.xe s
abbrev TIp:=V->V->Hp->VK->Prop
def PIp (X:Cx) (op:Operator) (t:TIp):Prop:=
 ∀(pins:List (Addr×Obj)) (s:Shared) (σ:St) (H:Hp) (x y:V) (v u:Value) (Q:VK),Inv X pins σ H s->RelV x v->RelV y u->t x y H Q->
   wpAny (model X.prog X.w) X.A (inplaceOp op v u) (EP X pins σ Q) X.xe s
section
variable{X:Cx}{pos:Pos}
def gName(i:Nat):TG:=fun v σ H Q=>Q (σ.set i (some v)) H
theorem pg_name{i:Nat}{x:Str}(hN:X.N.Nodup)(hi:X.N[i]?=some x)(hx:Loc X.env.scope x)(hf:X.fn x=true∨X.env.scope.names.lookup x=some .local:=by first | exact .inl rfl | exact .inr rfl | assumption):PG X (.Name x pos) (gName i):=by
 intro pins s σ H v u Q I r h
 exact wpAny_assign_Name (store_ok I hN hi hx r (fun s' I'=>⟨_,H,I',h⟩) hf)
def gNil:TGs:=fun vs σ H Q=>vs=[]∧Q σ H
def gCons(t:TG)(u:TGs):TGs:=fun vs σ H Q=>∃v r,vs=v::r∧t v σ H fun σ' H'=>u r σ' H' Q
theorem pgs_nil:PGs X [] gNil:=by
 intro pins s σ H vs us Q I r h
 obtain⟨e,h⟩:=h
 subst e
 cases r
 exact assignInOrder_nil ⟨σ,H,I,h⟩
theorem pgs_cons {e:Expr}{es:List Expr}{t:TG}{u:TGs} (h1:PG X e t) (h2:PGs X es u)
  (hs:(assignEach (e::es) X.env).map (·.2)=assign e X.env::(assignEach es X.env).map (·.2):=by rfl):PGs X (e::es) (gCons t u):=by
 intro pins s σ H vs us Q I r h
 obtain⟨v,vr,e1,h⟩:=h
 subst e1
 cases r with
 |cons r rr=>
   rw[hs]
   refine assignInOrder_cons (thn (h1 pins s σ H _ _ _ I r h) fun _ s1 ⟨σ1,H1,I1,q1⟩=>?_)
   exact h2 pins s1 σ1 H1 _ _ Q I1 rr q1
def gTup(K:PySem.W.Frag)(n:Nat)(t:TGs):TG:=fun v σ H Q=>∃a xs,v=.ref a∧SqT K H a xs∧xs.length=n∧t xs σ H Q
theorem pg_tup{es:List Expr}{k:Nat}{t:TGs}{n:Nat}(hc:X.calm=true)(h:PGs X es t)
  (hn:(assignEach es X.env).length=n:=by rfl) (hst:(assignEach es X.env).findIdx? (·.1)=none:=by rfl):PG X (.Tuple es k pos) (gTup X.K n t):=by
 intro pins s σ H v u Q I r hw
 obtain⟨a,xs,e1,hq,hl,hw⟩:=hw
 subst e1
 cases r
 obtain⟨its,rv,ht,hz⟩:=I.tuple hq
 refine assign_Tuple_tuple (I.ok.hd hc) ht (by simp[hn,←hl,rv.length]) hst fun h' hx=>?_
 have I1:Inv X pins σ H { s with heap:=h' }:=I.kept (t':=s.toks) fun b o e=>hx b o (Nat.ne_of_lt (Heap.lt_size e)) e
 exact h pins _ σ H xs _ Q I1 (by simpa using rv) hw
def gSub(to ti:TE)(t:TSet):TG:=fun v σ H Q=>to σ H fun o H1=>ti σ H1 fun i H2=>t o i v H2 fun H3=>Q σ H3
theorem pg_sub {o i:Expr}{to ti:TE}{t:TSet} (ho:PE X o to) (hi:PE X i ti) (hs:PSet X t)
  (ha:∀v,assign (.Subscript o i pos) X.env v=(do
    let ov ←holding [v] (eval o X.env)
    let iv ←holding [v,ov] (eval i X.env)
    standAt pos
    holding [v,ov,iv] (setItem ov iv v)
    release [v,ov,iv] []):=by intro _;rfl):PG X (.Subscript o i pos) (gSub to ti t):=by
 intro pins s σ H v u Q I r h
 rw[ha]
 refine wpAny_bind (wpAny_holding (thn (ho pins s σ H _ I h) fun ov s1 ⟨x,H1,I1,r1,q1⟩=>?_))
 refine wpAny_bind (wpAny_holding (thn (hi pins s1 σ H1 _ I1 q1) fun iv s2 ⟨y,H2,I2,r2,q2⟩=>?_))
 refine wpAny_bind (wpAny_standAt (wpAny_bind (wpAny_holding (thn (hs pins s2 σ H2 x y v ov iv u _ I2 r1 r2 r q2) fun _ s3 ⟨H3,I3,q3⟩=>?_))))
 exact wpAny_release ⟨σ,H3,I3,q3⟩
def tAsg(te:TE)(g:TG):TS:=fun D σ H=>te σ H fun x H1=>g x σ H1 D.nx
theorem ps_asg{tg e:Expr}{te:TE}{g:TG}(he:PE X e te)(hg:PG X tg g)(hs:swapsWithSole [tg] e pos.line X.env=pure false:=by rfl)(hw:swappedStores [tg] e X.env=pure none:=by rfl)
  (h1:(assignEach [tg] X.env).map (·.2)=[assign tg X.env]:=by rfl):PS X (.Assign [tg] e pos) (tAsg te g):=by
 intro pins s σ H D I h
 refine wpAny_Assign_stores (thn (he pins s σ H _ I h) fun v s1 ⟨x,H1,I1,r1,q1⟩=>?_) hs hw
 rw[h1]
 exact thn (hg pins s1 σ H1 x v _ I1 r1 q1) fun _ s2 q=>q
theorem ps_set{i:Nat}{x:Str}{e:Expr}{te:TE}{pos':Pos}(hN:X.N.Nodup)(hi:X.N[i]?=some x)(hx:Loc X.env.scope x)(he:PE X e te)(hs:swapsWith e (some (.Name x pos')) pos.line X.env=pure false:=by rfl)(hf:X.fn x=true∨X.env.scope.names.lookup x=some .local:=by first | exact .inl rfl | exact .inr rfl | assumption) :
  PS X (.Assign [.Name x pos'] e pos) (tAsg te (gName i)):=by
 intro pins s σ H D I h
 refine wpAny_Assign_Name (thn (he pins s σ H _ I h) fun v s1 ⟨y,H1,I1,r1,q1⟩=>?_) hs
 exact store_ok I1 hN hi hx r1 (fun s2 I2=>⟨_,H1,I2,q1⟩) hf
def tPar(i j:Nat)(ta:TA):TS:=fun D σ H=>ta σ H fun vs H1=>∃v w,vs=[v,w]∧D.nx ((σ.set i (some v)).set j (some w)) H1
theorem ps_par {i j:Nat}{x y:Str}{a b:Expr}{ta:TA}{px py pt:Pos}{kt k2 pt2} (hc:X.calm=true) (hN:X.N.Nodup) (hi:X.N[i]?=some x) (hj:X.N[j]?=some y) (hij:i≠j)
  (hx:X.env.scope.names.lookup x=some .local) (hy:X.env.scope.names.lookup y=some .local) (ha:PA X [a,b] ta)
  (hw:swappedStores [.Tuple [.Name x px,.Name y py] kt pt] (.Tuple [a,b] k2 pt2) X.env=pure (some [x,y]))
  (hs:swapsWithSole [.Tuple [.Name x px,.Name y py] kt pt] (.Tuple [a,b] k2 pt2) pos.line X.env=pure false:=by rfl) :
  PS X (.Assign [.Tuple [.Name x px,.Name y py] kt pt] (.Tuple [a,b] k2 pt2) pos) (tPar i j ta):=by
 intro pins s σ H D I h
 rw[exec_Assign_arm]
 refine wpAny_bind (wpAny_standAt ?_)
 rw[hs]
 refine wpAny_bind (wpAny_pure ?_)
 rw[if_neg (by decide)]
 refine wpAny_bind (Tuple_ (thn (ha _ pins s σ H _ I h) fun us s1 ⟨vs,H1,I1,r1,q1⟩=>?_))
 obtain⟨v,w,e1,q1⟩:=q1
 subst e1
 obtain ⟨u1,u2,rfl,rv,rw'⟩:∃ u1 u2,us=[u1,u2]∧RelV v u1∧RelV w u2:=by
  cases r1 with
  | cons p q=>
    cases q with
    |cons p' q'=>
      cases q'
      exact⟨_,_,rfl,p,p'⟩
 refine wpAny_newObj_type ?_ (by show 2≤sizeLine;decide)
 have I2:Inv X pins σ H1 { s1 with heap:=s1.heap.push { cls:=.type "tuple",data:=.seq [u1,u2].toArray } }:=I1.kept (t':=s1.toks) fun b o e=>Heap.get?_push_of_some _ e
 rw[hw]
 refine wpAny_bind (wpAny_pure ?_)
 show wpAny (model X.prog X.w) X.A (do rule "assign.swapped-stores";let items ←unpackItems (.ref s1.heap.objs.size) 2 none;assignInOrder [fun v=>bindName X.env y v,fun v=>bindName X.env x v] items.reverse;pure Flow.next) _ _ _
 refine wpAny_bind (wpAny_rule (wpAny_bind (unpackItems_tuple (items:=#[u1,u2]) (I.ok.hd hc) (IsTup.new s1.heap _) fun h' hx'=>?_)))
 have I3:=I2.kept (h':=h') (t':=s1.toks) fun b o e=>hx' b o (Nat.ne_of_lt (Heap.lt_size e)) e
 show wpAny _ _ (assignInOrder [fun v=>bindName X.env y v,fun v=>bindName X.env x v] [u2,u1]>>=fun _=>pure Flow.next) _ _ _
 refine wpAny_bind (assignInOrder_cons (wpAny_bindName (store_ok I3 hN hj (.inl hy) rw' (fun s2 I4=>?_) (.inr hy))))
 refine assignInOrder_cons (wpAny_bindName (store_ok I4 hN hi (.inl hx) rv (fun s3 I5=>assignInOrder_nil (wpAny_pure ?_)) (.inr hx)))
 rw[List.set_comm _ _ (Ne.symm hij)] at I5
 exact⟨_,H1,I5,q1⟩
def tAugS(to ti te:TE)(tget:V->V->Hp->VK->Prop)(tip:TIp)(tset:TSet):TS:=fun D σ H=>to σ H fun o H1=>ti σ H1 fun i H2=>tget o i H2 fun x H3=>te σ H3 fun y H4=>tip x y H4 fun z H5=>tset o i z H5 fun H6=>D.nx σ H6
def PGet (X:Cx) (t:V->V->Hp->VK->Prop):Prop:=
 ∀(pins:List (Addr×Obj)) (s:Shared) (σ:St) (H:Hp) (o i:V) (ov iv:Value) (Q:VK),Inv X pins σ H s->RelV o ov->RelV i iv->t o i H Q->
   wpAny (model X.prog X.w) X.A (getItem ov iv) (EP X pins σ Q) X.xe s
theorem ps_augS{o i e:Expr}{to ti te:TE}{tget:V->V->Hp->VK->Prop}{tip:TIp}{tset:TSet}{op:Operator}{tpos:Pos}(ho:PE X o to)(hi:PE X i ti)(hg:PGet X tget)(he:PE X e te)(hp:PIp X op tip)(hs:PSet X tset)
  (ha:∀ov iv new,augStore i ov iv new=(do holding [new,ov,iv] (setItem ov iv new);release [new,ov,iv] [];pure .next):=by intros;rfl):PS X (.AugAssign (.Subscript o i tpos) op e pos) (tAugS to ti te tget tip tset):=by
 intro pins s σ H D I h
 refine wpAny_AugAssign_SubscriptAny (thn (ho pins s σ H _ I h) fun ov s1 ⟨x1,H1,I1,r1,q1⟩=>?_) ha
 refine thn (hi pins s1 σ H1 _ I1 q1) fun iv s2 ⟨x2,H2,I2,r2,q2⟩=>?_
 refine thn (hg pins s2 σ H2 x1 x2 ov iv _ I2 r1 r2 q2) fun old s3 ⟨x3,H3,I3,r3,q3⟩=>?_
 refine thn (he pins s3 σ H3 _ I3 q3) fun v s4 ⟨x4,H4,I4,r4,q4⟩=>?_
 refine thn (hp pins s4 σ H4 x3 x4 old v _ I4 r3 r4 q4) fun new s5 ⟨x5,H5,I5,r5,q5⟩=>?_
 exact thn (hs pins s5 σ H5 x1 x2 x5 ov iv new _ I5 r1 r2 r5 q5) fun _ s6 ⟨H6,I6,q6⟩=>⟨σ,H6,I6,q6⟩
end
structure It where
 go:Nat->Hp->Prop
 yld:Nat->Hp->V->Hp->Prop
 stop:Nat->Hp->Prop
def FpOk(X:Cx)(pins:List (Addr×Obj))(H:Hp)(b:Addr):Prop:=
 H b=none∧b≠X.env.locals∧b∉X.fs∧(b∈X.ex∨X.s₀.heap.objs.size≤b)∧(∀x c,X.env.cells.lookup x=some c->c≠b)∧∀p∈X.pn++pins,p.1≠b
theorem Inv.fpOk{X:Cx}{pins:List (Addr×Obj)}{σ:St}{H H':Hp}{s:Shared}{b:Addr}(I:Inv X pins σ H s)(hb:s.heap.objs.size≤b)(hn:H' b=none):FpOk X pins H' b:=by
 refine⟨hn,Nat.ne_of_gt (Nat.lt_of_lt_of_le I.lt hb),I.nofs hb,.inr (Nat.le_trans I.sz hb),fun x c e z=>?_,fun p hp z=>?_⟩
 ·obtain⟨v,q⟩:=I.cell x c e
  exact absurd (Nat.lt_of_lt_of_le q.lt (by rw[z];exact hb)) (Nat.lt_irrefl _)
 ·exact absurd (Nat.lt_of_lt_of_le (Heap.lt_size (I.pin p hp).1) (by rw[z];exact hb)) (Nat.lt_irrefl _)
structure Turn (P:Program) (w:World) (K:PySem.W.Frag) (tg:Expr) (J:It) (fp:List Addr) (it:Addr) (tn:Nat->Heap->Prop):Prop where
 mem:it∈fp
 obj:∀i h,tn i h->∀b∈fp,∃o,h.get? b=some o∧∀v,o.data≠.cell v
 keep:∀i h h',tn i h->(∀b∈fp,∀o,h.get? b=some o->h'.get? b=some o)->tn i h'
 item:∀(X:Cx),X.prog=P->X.w=w->X.K=K->X.calm=true->∀(i:Nat) (pins:List (Addr×Obj)) (s:Shared) (σ:St) (H:Hp) (E:Value->Shared->Prop),Inv X pins σ H s->(∀b∈fp,FpOk X pins H b)->tn i s.heap->J.go i H->
  wpAny (model P w) X.A (pyNext (.ref it)) (fun r s1=>∃u,r=some u ∧
   wpAny (model P w) X.A (letOwnedTupleGo tg (.ref it) u) (fun _ s2=>∃x H',Inv X pins σ H' s2∧RelV x u∧J.yld i H x H'∧tn (i+1) s2.heap∧∀b∈fp,H' b=none) E s1) E s
 done:∀(X:Cx),X.prog=P->X.w=w->X.K=K->X.calm=true->∀(i:Nat) (pins:List (Addr×Obj)) (s:Shared) (σ:St) (H:Hp) (E:Value->Shared->Prop),Inv X pins σ H s->(∀b∈fp,FpOk X pins H b)->tn i s.heap->J.stop i H->
  wpAny (model P w) X.A (pyNext (.ref it)) (fun r s1=>r=none∧Inv X pins σ H s1) E s
 self:∀(A:Around) (i:Nat) (s:Shared) (Q:Value->Shared->Prop) (E:Value->Shared->Prop),tn i s.heap->Q (.ref it) s->wpAny (model P w) A (pyIter (.ref it)) Q E s
abbrev TI:=St->Hp->(It->Hp->Prop)->Prop
def PIE(X:Cx)(pins:List (Addr×Obj))(σ:St)(tg:Expr)(R:It->Hp->Prop)(itv:Value)(s2:Shared):Prop:=
 ∃(it:Addr) (fp:List Addr) (tn:Nat->Heap->Prop) (J:It) (H':Hp),itv=.ref it∧Inv X pins σ H' s2∧Turn X.prog X.w X.K tg J fp it tn∧tn 0 s2.heap∧(∀b∈fp,FpOk X pins H' b)∧R J H'
def PI (X:Cx) (tg iter:Expr) (wi:TI):Prop:=
 ∀(pins:List (Addr×Obj)) (s:Shared) (σ:St) (H:Hp) (R:It->Hp->Prop),Inv X pins σ H s->wi σ H R->
   wpAny (model X.prog X.w) X.A (eval iter X.env) (fun v s1=>wpAny (model X.prog X.w) X.A (pyIter v) (PIE X pins σ tg R) X.xe s1) X.xe s
theorem go_of {M:Model}{A:Around}{E:Value->Shared->Prop}{s:Shared}{tg:Expr}{it:Addr}{u:Value}{o:Obj}{n:String}{vs:Array Value}{Q:Unit->Shared->Prop} (ho:s.heap.get? it=some o) (hc:o.cls=.type n) (hd:o.data=.fields vs)
  (hn:["enumerate", "zip", "dict_itemiterator", "dict_reverseitemiterator", "odict_iterator", "itertools.zip_longest", "itertools.pairwise"].contains n=false) (hQ:Q () s):wpAny M A (letOwnedTupleGo tg (.ref it) u) Q E s:=by
 unfold letOwnedTupleGo
 cases tg<;>first
  |exact wpAny_pure hQ
  | (cases u<;>first
      |exact wpAny_pure hQ
      | (refine wpAny_bind (wpAny_load ho ?_)
         rw[hc,hd]
         show wpAny M A (if (["enumerate", "zip", "dict_itemiterator", "dict_reverseitemiterator", "odict_iterator", "itertools.zip_longest", "itertools.pairwise"].contains n&&vs[0]?==some (rawInt _))=true then _ else _) Q E s
         rw[if_neg (by intro h;rw[hn,Bool.false_and] at h;cases h)]
         exact wpAny_pure hQ))
def Itl(K:PySem.W.Frag)(a:Addr):It:=
 ⟨fun i H=>∃xs x,SqL K H a xs∧xs[i]?=some x,fun i H x H'=>H'=H∧∀xs,SqL K H a xs->xs[i]?=some x,fun i H=>∃xs,SqL K H a xs∧xs.length≤i⟩
def Itt(K:PySem.W.Frag)(a:Addr):It:=
 ⟨fun i H=>∃xs x,SqT K H a xs∧xs[i]?=some x,fun i H x H'=>H'=H∧∀xs,SqT K H a xs->xs[i]?=some x,fun i H=>∃xs,SqT K H a xs∧xs.length≤i⟩
def Itr(lo:Int)(n:Nat):It:=⟨fun i _=>i<n,fun i H x H'=>H'=H∧x=.int (lo+i),fun i _=>n≤i⟩
theorem turn_list{P:Program}{w:World}{K:PySem.W.Frag}{tg:Expr}(a it:Addr):Turn P w K tg (Itl K a) [it] it (fun i h=>h.IsListIter it a i) where
 mem:=by simp
 obj:=fun i h st b hb=>by
  have e:b=it:=by simpa using hb
  subst e
  obtain⟨o,e,c,d⟩:=st
  exact⟨o,e,fun v z=>by rw[d] at z;cases z⟩
 keep:=fun i h h' st k=>st.at fun o e=>k it (by simp) o e
 item:=by
  intro X hP hw hK hc i pins s σ H E I hf st hg
  subst hP hw hK
  obtain⟨xs,x,hq,hx⟩:=hg
  obtain⟨its,rv,p,hz⟩:=I.list hq
  obtain⟨u,hu,ru⟩:=rv.get hx
  obtain⟨f0,f1,f2,f3,f4,f5⟩:=hf it (by simp)
  refine wpAny_pyNext_list_item st p.isList (x:=u) (by simpa using hu) fun h' st' sb=>?_
  have I1:Inv X pins σ H { s with heap:=h' }:=I.turned (t':=s.toks) (fun b o hb e=>(sb.2 b hb).trans e) f0 f1 f3 f4 f5
  obtain⟨o,e,c,d⟩:=id st'
  exact⟨u,rfl,go_of (s:={ s with heap:=h' }) e c d (by decide) ⟨x,H,I1,ru,⟨rfl,fun ys hy=>by rw[I.list_inj hy hq];exact hx⟩,st',fun b hb=>(hf b hb).1⟩⟩
 done:=by
  intro X hP hw hK hc i pins s σ H E I hf st hg
  subst hP hw hK
  obtain⟨xs,hq,hx⟩:=hg
  obtain⟨its,rv,p,hz⟩:=I.list hq
  obtain⟨f0,f1,f2,f3,f4,f5⟩:=hf it (by simp)
  have hl:=rv.length
  exact wpAny_pyNext_list_end (I.ok.hd hc) st p.isList (by simp;omega) fun h' eb=>⟨rfl,I.turned (t':=s.toks) (fun b o hb e=>eb b o hb e) f0 f1 f3 f4 f5⟩
 self:=fun _ _ _ _ _ st h=>wpAny_pyIter_listiter st h
theorem turn_tuple{P:Program}{w:World}{K:PySem.W.Frag}{tg:Expr}(a it:Addr):Turn P w K tg (Itt K a) [it] it (fun i h=>h.IsTupleIter it a i) where
 mem:=by simp
 obj:=fun i h st b hb=>by
  have e:b=it:=by simpa using hb
  subst e
  obtain⟨o,e,c,d⟩:=st
  exact⟨o,e,fun v z=>by rw[d] at z;cases z⟩
 keep:=fun i h h' st k=>st.at fun o e=>k it (by simp) o e
 item:=by
  intro X hP hw hK hc i pins s σ H E I hf st hg
  subst hP hw hK
  obtain⟨xs,x,hq,hx⟩:=hg
  obtain⟨its,rv,p,hz⟩:=I.tuple hq
  obtain⟨u,hu,ru⟩:=rv.get hx
  obtain⟨f0,f1,f2,f3,f4,f5⟩:=hf it (by simp)
  refine wpAny_pyNext_tuple_item st (show s.heap.IsTuple a its.toArray from p) (x:=u) (by simpa using hu) fun h' st' sb=>?_
  have I1:Inv X pins σ H { s with heap:=h' }:=I.turned (t':=s.toks) (fun b o hb e=>(sb.2 b hb).trans e) f0 f1 f3 f4 f5
  obtain⟨o,e,c,d⟩:=id st'
  exact⟨u,rfl,go_of (s:={ s with heap:=h' }) e c d (by decide) ⟨x,H,I1,ru,⟨rfl,fun ys hy=>by rw[I.tuple_inj hy hq];exact hx⟩,st',fun b hb=>(hf b hb).1⟩⟩
 done:=by
  intro X hP hw hK hc i pins s σ H E I hf st hg
  subst hP hw hK
  obtain⟨xs,hq,hx⟩:=hg
  obtain⟨its,rv,p,hz⟩:=I.tuple hq
  obtain⟨f0,f1,f2,f3,f4,f5⟩:=hf it (by simp)
  have hl:=rv.length
  exact wpAny_pyNext_tuple_end (I.ok.hd hc) st (show s.heap.IsTuple a its.toArray from p) (by simp;omega) fun h' eb=>⟨rfl,I.turned (t':=s.toks) (fun b o hb e=>eb b o hb e) f0 f1 f3 f4 f5⟩
 self:=fun _ _ _ _ _ st h=>wpAny_pyIter_tupleiter st h
theorem turn_range {P:Program}{w:World}{K:PySem.W.Frag}{tg:Expr} (it:Addr) (lo:Int) (n:Nat):Turn P w K tg (Itr lo n) [it] it (fun i h=>IsRangeIter h it (lo + (i:Nat) * 1) ((n:Int) - (i:Nat)) 1) where
 mem:=by simp
 obj:=fun i h st b hb=>by
  have e:b=it:=by simpa using hb
  subst e
  exact⟨_,st,fun v z=>by
   have z':Data.fields _=Data.cell v:=z
   cases z'⟩
 keep:=fun i h h' st k=>k it (by simp) _ st
 item:=by
  intro X hP hw hK hc i pins s σ H E I hf st hg
  subst hP hw hK
  obtain⟨f0,f1,f2,f3,f4,f5⟩:=hf it (by simp)
  have W:=Walks.range (prog:=X.prog) (w:=X.w) (I.ok.hd hc) it lo 1 n
  refine W.item i s _ _ hg st fun v h' tk hv st' kk=>?_
  obtain⟨t,rfl⟩:=hv
  have I1:Inv X pins σ H { s with heap:=h',toks:=tk }:=I.turned (fun b o hb e=>kk b o (by simpa using hb) e) f0 f1 f3 f4 f5
  refine⟨_,rfl,go_of (s:={ s with heap:=h',toks:=tk }) (n := "range_iterator") st' rfl rfl (by decide) ⟨.int (lo+i),H,I1,⟨t,?_⟩,⟨rfl,rfl⟩,st',fun b hb=>(hf b hb).1⟩⟩
  rw[Int.mul_one]
 done:=by
  intro X hP hw hK hc i pins s σ H E I hf st hg
  subst hP hw hK
  obtain⟨f0,f1,f2,f3,f4,f5⟩:=hf it (by simp)
  exact wpAny_pyNext_range_end (I.ok.hd hc) st (by have:n≤i:=hg;omega) fun h' eb=>⟨rfl,I.turned (t':=s.toks) (fun b o hb e=>eb b o hb e) f0 f1 f3 f4 f5⟩
 self:=fun _ _ _ _ _ st h=>wpAny_pyIter_rangeiter st h
open PySem PySem.Spec PyProof.Rows
section
variable{X:Cx}{tg:Expr}
def iList(K:PySem.W.Frag)(tl:TE):TI:=fun σ H R=>tl σ H fun x H1=>∃a,x=.ref a∧(∃xs,SqL K H1 a xs)∧R (Itl K a) H1
def iTup(K:PySem.W.Frag)(tl:TE):TI:=fun σ H R=>tl σ H fun x H1=>∃a,x=.ref a∧(∃xs,SqT K H1 a xs)∧R (Itt K a) H1
theorem pi_list{l:Expr}{tl:TE}(hl:PE X l tl):PI X tg l (iList X.K tl):=by
 intro pins s σ H R I h
 refine thn (hl pins s σ H _ I h) fun v s1 ⟨x,H1,I1,r1,q1⟩=>?_
 obtain⟨a,e,⟨xs,hq⟩,q⟩:=q1
 subst e
 cases r1
 obtain⟨its,rv,p,hz⟩:=I1.list hq
 refine wpAny_pyIter_list p.isList ?_
 refine⟨s1.heap.objs.size,[s1.heap.objs.size],_,_,H1,rfl,I1.kept (t':=s1.toks) fun b o e=>Heap.get?_push_of_some _ e,turn_list a _,⟨_,Heap.get?_push_size _ rfl,rfl,rfl⟩,fun b hb=>?_,q⟩
 have e:b=s1.heap.objs.size:=by simpa using hb
 subst e
 exact I1.fpOk (Nat.le_refl _) (I1.hok.fresh (Nat.le_refl _))
theorem pi_tup{l:Expr}{tl:TE}(hl:PE X l tl):PI X tg l (iTup X.K tl):=by
 intro pins s σ H R I h
 refine thn (hl pins s σ H _ I h) fun v s1 ⟨x,H1,I1,r1,q1⟩=>?_
 obtain⟨a,e,⟨xs,hq⟩,q⟩:=q1
 subst e
 cases r1
 obtain⟨its,rv,p,hz⟩:=I1.tuple hq
 refine wpAny_pyIter_tuple (show s1.heap.IsTuple a its.toArray from p) ?_
 refine⟨s1.heap.objs.size,[s1.heap.objs.size],_,_,H1,rfl,I1.kept (t':=s1.toks) fun b o e=>Heap.get?_push_of_some _ e,turn_tuple a _,⟨_,Heap.get?_push_size _ rfl,rfl,rfl⟩,fun b hb=>?_,q⟩
 have e:b=s1.heap.objs.size:=by simpa using hb
 subst e
 exact I1.fpOk (Nat.le_refl _) (I1.hok.fresh (Nat.le_refl _))
theorem range_it{pins:List (Addr×Obj)}{σ:St}{H:Hp}{s:Shared}{R:It->Hp->Prop}{E:Value->Shared->Prop}{lo hi:Int}{t u v:Tok}{tk:Nat}(I:Inv X pins σ H s)(h1:-(2^62)≤lo)(h2:lo<2^62)(h3:-(2^62)≤hi)(h4:hi<2^62)
  (q:R (Itr lo (hi-lo).toNat) H):wpAny (model X.prog X.w) X.A (pyIter (.ref s.heap.objs.size)) (PIE X pins σ tg R) E { s with heap:=s.heap.push { cls:=.type "range",data:=.fields #[.int lo t,.int hi u,.int 1 v] },toks:=tk }:=by
 refine wpAny_pyIter_range (IsRange.new ..) (small_one h1 h2 h3 h4) ?_
 have I1:Inv X pins σ H { s with heap:=s.heap.push { cls:=.type "range",data:=.fields #[.int lo t,.int hi u,.int 1 v] },toks:=tk }:=I.kept fun b o e=>Heap.get?_push_of_some _ e
 refine⟨(s.heap.push { cls:=.type "range",data:=.fields #[.int lo t,.int hi u,.int 1 v] }).objs.size,[(s.heap.push { cls:=.type "range",data:=.fields #[.int lo t,.int hi u,.int 1 v] }).objs.size],_,_,H,rfl,
  I1.kept (t':=tk) fun b o e=>Heap.get?_push_of_some _ e,turn_range _ lo (hi-lo).toNat,?_,fun b hb=>?_,q⟩
 ·have e1:lo+((0:Nat):Int)*1=lo:=by simp
  have e2:(((hi-lo).toNat:Nat):Int)-((0:Nat):Int)=Builtin.Range.rangeSize lo hi 1:=by rw[rangeSize_one];split<;>omega
  show IsRangeIter _ _ (lo+((0:Nat):Int)*1) ((((hi-lo).toNat:Nat):Int)-((0:Nat):Int)) 1
  rw[e1,e2]
  exact Heap.get?_push_size _ rfl
 ·have e:b=(s.heap.push { cls:=.type "range",data:=.fields #[.int lo t,.int hi u,.int 1 v] }).objs.size:=by simpa using hb
  subst e
  exact I1.fpOk (Nat.le_refl _) (I1.hok.fresh (Nat.le_refl _))
def iRng1(ta:TA):TI:=fun σ H R=>ta σ H fun vs H1=>∃j:Int,vs=[.int j]∧-(2^62)≤j∧j<2^62∧R (Itr 0 j.toNat) H1
def iRng2(ta:TA):TI:=fun σ H R=>ta σ H fun vs H1=>∃i j:Int,vs=[.int i,.int j]∧(-(2^62)≤i∧i<2^62∧-(2^62)≤j∧j<2^62)∧R (Itr i (j-i).toNat) H1
theorem pi_range1 {a:Expr}{ta:TA}{p pos:Pos} (hg:Gl X "range") (hm:X.mg "range"=none) (ha:PA X [a] ta) (hs:starEach [a] X.env=[(false,eval a X.env)]:=by rfl):PI X tg (.Call (.Name "range" p) [a] [] pos) (iRng1 ta):=by
 intro pins s σ H R I h
 refine Call_ (ld_blt I hg hm boot_range (PyProof.Rows.callWith_type1 (thn (ha pos pins s σ H _ I h) fun us s1 ⟨vs,H1,I1,r1,q1⟩=>?_) hs rfl))
 obtain⟨j,e,q1,q2,q⟩:=q1
 subst e
 cases r1 with
 |cons r rr=>
   cases rr
   obtain⟨t,rfl⟩:=r
   exact call_range_1 (range_it I1 (by omega) (by omega) q1 q2 (by simpa using q))
theorem pi_range2 {a b:Expr}{ta:TA}{p pos:Pos} (hg:Gl X "range") (hm:X.mg "range"=none) (ha:PA X [a,b] ta) (hs:starEach [a,b] X.env=[(false,eval a X.env),(false,eval b X.env)]:=by rfl) (hs2:starEach [b] X.env=[(false,eval b X.env)]:=by rfl) :
  PI X tg (.Call (.Name "range" p) [a,b] [] pos) (iRng2 ta):=by
 intro pins s σ H R I h
 refine Call_ (ld_blt I hg hm boot_range (PyProof.Rows.callWith_type1 (thn (ha pos pins s σ H _ I h) fun us s1 ⟨vs,H1,I1,r1,q1⟩=>?_) (by rw[hs,hs2]) (by rw[hs2];rfl)))
 obtain⟨i,j,e,⟨q1,q2,q3,q4⟩,q⟩:=q1
 subst e
 cases r1 with
 | cons r rr=>
   cases rr with
   |cons r' rr=>
     cases rr
     obtain⟨t,rfl⟩:=r
     obtain⟨t',rfl⟩:=r'
     exact call_range_2 (range_it I1 q1 q2 q3 q4 q)
def tFor(wi:TI)(g:TG)(tb:TS):TS:=fun D σ H=>wi σ H fun J H1=>∃W:Nat->Nat->St->Hp->Prop,(∃m,W 0 m σ H1)∧∀i m σ H,W i m σ H->
 (J.stop i H∧D.nx σ H)∨(J.go i H∧∃N:St->Hp->Prop,(∀σ' H',N σ' H'->∃m',m'<m∧W (i+1) m' σ' H')∧∀x H',J.yld i H x H'->g x σ H' fun σ2 H2=>tb { D with nx:=N,ct:=N,bk:=D.nx } σ2 H2)
def pinsAt(fp:List Addr)(h:Heap):List (Addr×Obj):=fp.filterMap fun b=>(h.get? b).map fun o=>(b,o)
theorem mem_pinsAt{fp:List Addr}{h:Heap}{b:Addr}{o:Obj}(hb:b∈fp)(e:h.get? b=some o):(b,o)∈pinsAt fp h:=List.mem_filterMap.mpr ⟨b,hb,by rw[e];rfl⟩
theorem of_pinsAt {fp:List Addr}{h:Heap}{p:Addr×Obj} (hp:p∈pinsAt fp h):p.1∈fp∧h.get? p.1=some p.2:=by
 obtain⟨b,hb,e⟩:=List.mem_filterMap.mp hp
 cases q:h.get? b with
 |none=>rw[q] at e;cases e
 |some o=>
   rw[q] at e
   have e':(b,o)=p:=Option.some.inj e
   subst e'
   exact⟨hb,q⟩
theorem Inv.pinned{pins:List (Addr×Obj)}{σ:St}{H:Hp}{s:Shared}{fp:List Addr}(I:Inv X pins σ H s)(hf:∀b∈fp,FpOk X pins H b)(ho:∀b∈fp,∃o,s.heap.get? b=some o∧∀v,o.data≠.cell v):Inv X (pins++pinsAt fp s.heap) σ H s:=
 I.pins_of fun p hp=>(List.mem_append.mp hp).elim (fun z=>I.pin p (List.mem_append_right _ z)) fun z=>by
  obtain⟨hb,e⟩:=of_pinsAt z
  obtain⟨f0,f1,f2,_⟩:=hf p.1 hb
  obtain⟨o,e',d⟩:=ho p.1 hb
  rw[e] at e';cases e'
  exact⟨e,f0,f1,f2,d⟩
theorem Inv.unpinned{pins pl:List (Addr×Obj)}{σ:St}{H:Hp}{s:Shared}(I:Inv X (pins++pl) σ H s):Inv X pins σ H s:=I.pins_of fun p hp=>I.pin p (List.mem_append_right _ (List.mem_append_left _ hp))
theorem ps_for {iter:Expr}{body:List Stmt}{wi:TI}{g:TG}{tb:TS}{pos:Pos} (hp:PassesOwn (model X.prog X.w) X.A X.env X.xe) (hc:X.calm=true) (hi:PI X tg iter wi) (hg:PG X tg g) (hb:PSs X body tb)
  (hs:∀x,foldedSetIterable iter X.env x=pure x:=by intro _;rfl):PS X (.For tg iter body [] pos) (tFor wi g tb):=by
 intro pins s σ H D I h
 refine wpAny_For (thn (hi pins s σ H _ I h) fun v s1 h1=>thn h1 fun itv s2 h2=>?_) hs
 obtain⟨it,fp,tn,J,H2,e,I2,T,st2,f2,W,⟨m0,w0⟩,turn⟩:=h2
 subst e
 -- what stays true of the iterator's objects through the loop
 have stat:∀{H':Hp},(∀b∈fp,H' b=none)->∀b∈fp,FpOk X pins H' b:=fun hn b hb=>⟨hn b hb,(f2 b hb).2⟩
 refine codeAny_forLoop_any (fun n s'=>∃i σ' H',Inv X pins σ' H' s'∧tn i s'.heap∧(∀b∈fp,H' b=none)∧W i n σ' H') ?_ m0 ⟨0,σ,H2,I2,st2,fun b hb=>(f2 b hb).1,w0⟩
 rintro n s3 ⟨i,σ3,H3,I3,st3,fr3,w3⟩
 rcases turn i n σ3 H3 w3 with ⟨stop,qn⟩ | ⟨go,N,hN,step⟩
 ·refine wpAny_passesOwn hp (thn (T.done X rfl rfl rfl hc i pins s3 σ3 H3 X.xe I3 (stat fr3) st3 stop) fun r s4 ⟨hr,I4⟩=>?_)
  subst hr
  exact wpAny_execs_nil ⟨σ3,H3,I4,qn⟩
 ·refine wpAny_passesOwn hp (thn (T.item X rfl rfl rfl hc i pins s3 σ3 H3 X.xe I3 (stat fr3) st3 go) fun r s4 ⟨u,hr,h4⟩=>?_)
  subst hr
  refine wpAny_passesOwn hp (thn h4 fun _ s5 ⟨x,H5,I5,r5,y5,st5,fr5⟩=>?_)
  have I5':=I5.pinned (stat fr5) (T.obj _ _ st5)
  refine wpAny_passesOwn hp (thn (hg _ s5 σ3 H5 x u _ I5' r5 (step x H5 y5)) fun _ s6 ⟨σ6,H6,I6,q6⟩=>?_)
  refine wpAny_passesOwn hp (thn (hb _ s6 σ6 H6 _ I6 q6) fun f s7 q7=>?_)
  have again:∀{σ7:St}{H7:Hp},Inv X (pins++pinsAt fp s5.heap) σ7 H7 s7->N σ7 H7->∃m,m<n∧∃i σ' H',Inv X pins σ' H' s7∧tn i s7.heap∧(∀b∈fp,H' b=none)∧W i m σ' H':=fun {σ7 H7} I7 n7=>by
   obtain⟨m',hm,w7⟩:=hN σ7 H7 n7
   refine⟨m',hm,i+1,σ7,H7,I7.unpinned,T.keep _ _ _ st5 fun b hb o e=>(I7.pin (b,o) (List.mem_append_right _ (List.mem_append_right _ (mem_pinsAt hb e)))).1,fun b hb=>?_,w7⟩
   obtain⟨o,e,d⟩:=T.obj _ _ st5 b hb
   exact (I7.pin (b,o) (List.mem_append_right _ (List.mem_append_right _ (mem_pinsAt hb e)))).2.1
  cases f with
  |next=>obtain⟨σ7,H7,I7,n7⟩:=q7;exact again I7 n7
  |cont=>obtain⟨σ7,H7,I7,n7⟩:=q7;exact again I7 n7
  |brk=>obtain⟨σ7,H7,I7,q7⟩:=q7;exact⟨σ7,H7,I7.unpinned,q7⟩
  |ret v=>obtain⟨x7,σ7,H7,I7,r7,q7⟩:=q7;exact⟨x7,σ7,H7,I7.unpinned,r7,q7⟩
end
open PySem PySem.Spec PyProof.Rows
abbrev R2:=V->V->Hp->VK->Prop
def OpR (X:Cx) (f:Value->Value->Sem Value) (r:R2):Prop:=
 ∀(pins:List (Addr×Obj)) (s:Shared) (σ:St) (H:Hp) (x y:V) (v u:Value) (Q:VK),Inv X pins σ H s->RelV x v->RelV y u->r x y H Q->
   wpAny (model X.prog X.w) X.A (f v u) (EP X pins σ Q) X.xe s
def UnR (X:Cx) (f:Value->Sem Value) (r:V->Hp->VK->Prop):Prop:=
 ∀(pins:List (Addr×Obj)) (s:Shared) (σ:St) (H:Hp) (x:V) (v:Value) (Q:VK),Inv X pins σ H s->RelV x v->r x H Q->
   wpAny (model X.prog X.w) X.A (f v) (EP X pins σ Q) X.xe s
def CallR (X:Cx) (f:Value) (r:List V->Hp->VK->Prop):Prop:=
 ∀(pins:List (Addr×Obj)) (s:Shared) (σ:St) (H:Hp) (xs:List V) (us:List Value) (Q:VK),Inv X pins σ H s->Vals xs us->r xs H Q->
   wpAny (model X.prog X.w) X.A (call f us) (EP X pins σ Q) X.xe s
def TruR (X:Cx) (r:V->Hp->(Bool->Hp->Prop)->Prop):Prop:=
 ∀(pins:List (Addr×Obj)) (s:Shared) (σ:St) (H:Hp) (x:V) (v:Value) (Q:Bool->Hp->Prop),Inv X pins σ H s->RelV x v->r x H Q->
   wpAny (model X.prog X.w) X.A (truthy v) (TP X pins σ Q) X.xe s
def tOp(r:R2)(ta tb:TE):TE:=fun σ H Q=>ta σ H fun x H1=>tb σ H1 fun y H2=>r x y H2 Q
def tUn(r:V->Hp->VK->Prop)(ta:TE):TE:=fun σ H Q=>ta σ H fun x H1=>r x H1 Q
def rI(C:Int->Int->Prop)(g:Int->Int->V):R2:=fun x y H Q=>∃i j,x=.int i∧y=.int j∧C i j∧Q (g i j) H
def rI0(g:Int->Int->V):R2:=fun x y H Q=>∃i j,x=.int i∧y=.int j∧Q (g i j) H
def rU(g:Int->V):V->Hp->VK->Prop:=fun x H Q=>∃i,x=.int i∧Q (g i) H
section
variable{X:Cx}{a b c:Expr}{ta tb tc:TE}{pos:Pos}
theorem binT(ha:PE X a ta)(hb:PE X b tb){pins:List (Addr×Obj)}{s:Shared}{σ:St}{H:Hp}{R:V->V->Hp->Prop}(I:Inv X pins σ H s)
  (h:ta σ H fun x H1=>tb σ H1 fun y H2=>R x y H2) {Q:Value->Shared->Prop}{f:Value->Value->Sem Value}
  (hf:∀v u s2 x y H2,Inv X pins σ H2 s2->RelV x v->RelV y u->R x y H2->wpAny (model X.prog X.w) X.A (f v u) Q X.xe s2) :
  wpAny (model X.prog X.w) X.A (eval a X.env) (fun v s₁=>wpAny (model X.prog X.w) X.A (eval b X.env) (fun u s₂=>wpAny (model X.prog X.w) X.A (f v u) Q X.xe s₂) X.xe s₁) X.xe s:=by
 refine thn (ha pins s σ H _ I h) fun v s1 ⟨x,H1,I1,r1,q1⟩=>?_
 refine thn (hb pins s1 σ H1 _ I1 q1) fun u s2 ⟨y,H2,I2,r2,q2⟩=>?_
 exact hf v u s2 x y H2 I2 r1 r2 q2
theorem pe_op{op:Operator}{r:R2}(ho:OpR X (binaryOp op) r)(ha:PE X a ta)(hb:PE X b tb):PE X (.BinOp a op b pos) (tOp r ta tb):=by
 intro pins s σ H Q I h
 exact wpAny_BinOp (binT ha hb I h fun v u s2 x y H2 I2 rx ry q=>ho pins s2 σ H2 x y v u Q I2 rx ry q)
theorem pe_un{op:UnaryOp}{r:V->Hp->VK->Prop}(ho:UnR X (unaryOp op) r)(ha:PE X a ta):PE X (.UnaryOp op a pos) (tUn r ta):=by
 intro pins s σ H Q I h
 exact UnaryOp_ (thn (ha pins s σ H _ I h) fun v s1 ⟨x,H1,I1,r1,q1⟩=>ho pins s1 σ H1 x v Q I1 r1 q1)
theorem opI{f:Value->Value->Sem Value}{C:Int->Int->Prop}{g:Int->Int->Int}
  (rule:∀(i j:Int) (t u:Tok) (s:Shared) (Q:Value->Shared->Prop) (E:Value->Shared->Prop),C i j->Q (.int (g i j) s.toks) { s with toks:=s.toks+1 }->wpAny (model X.prog X.w) X.A (f (.int i t) (.int j u)) Q E s) :
  OpR X f (rI C fun i j=>.int (g i j)):=by
 intro pins s σ H x y v u Q I rx ry h
 obtain⟨i,j,rfl,rfl,hc,q⟩:=h
 obtain⟨t,rfl⟩:=rx
 obtain⟨t',rfl⟩:=ry
 exact rule i j t t' s _ _ hc ⟨.int (g i j),H,I.tok _,⟨_,rfl⟩,q⟩
theorem opI0{f:Value->Value->Sem Value}{g:Int->Int->Int}
  (rule:∀(i j:Int) (t u:Tok) (s:Shared) (Q:Value->Shared->Prop) (E:Value->Shared->Prop),Q (.int (g i j) s.toks) { s with toks:=s.toks+1 }->wpAny (model X.prog X.w) X.A (f (.int i t) (.int j u)) Q E s) :
  OpR X f (rI0 fun i j=>.int (g i j)):=by
 intro pins s σ H x y v u Q I rx ry h
 obtain⟨i,j,rfl,rfl,q⟩:=h
 obtain⟨t,rfl⟩:=rx
 obtain⟨t',rfl⟩:=ry
 exact rule i j t t' s _ _ ⟨.int (g i j),H,I.tok _,⟨_,rfl⟩,q⟩
theorem opB0{f:Value->Value->Sem Value}{g:Int->Int->Bool}
  (rule:∀(i j:Int) (t u:Tok) (s:Shared) (Q:Value->Shared->Prop) (E:Value->Shared->Prop),Q (.bool (g i j)) s->wpAny (model X.prog X.w) X.A (f (.int i t) (.int j u)) Q E s) :
  OpR X f (rI0 fun i j=>.bl (g i j)):=by
 intro pins s σ H x y v u Q I rx ry h
 obtain⟨i,j,rfl,rfl,q⟩:=h
 obtain⟨t,rfl⟩:=rx
 obtain⟨t',rfl⟩:=ry
 exact rule i j t t' s _ _ ⟨.bl (g i j),H,I,rfl,q⟩
def CPow(i j:Int):Prop:=0≤j∧j≤1000000∧i.natAbs<2^64
theorem op_add:OpR X (binaryOp .Add) (rI0 fun i j=>.int (i+j)):=opI0 fun _ _ _ _ _ _ _ q=>add_int q
theorem op_sub:OpR X (binaryOp .Sub) (rI0 fun i j=>.int (i-j)):=opI0 fun _ _ _ _ _ _ _ q=>sub_int q
theorem op_mod:OpR X (binaryOp .Mod) (rI (fun _ j=>0<j) fun i j=>.int (i%j)):=opI fun i j _ _ _ _ _ hc q=>by
 have h1:(0:Int)<j:=hc
 exact mod_int' (by omega) (by rw[Int.fmod_eq_emod_of_nonneg i (by omega)];exact q)
theorem op_pow:OpR X (binaryOp .Pow) (rI CPow fun i j=>.int (i^j.toNat)):=opI fun _ _ _ _ _ _ _ hc q=>pow_int_small hc.1 hc.2.1 hc.2.2 q
theorem iop_add:OpR X (inplaceOp .Add) (rI0 fun i j=>.int (i+j)):=opI0 fun _ _ _ _ _ _ _ q=>iadd_int q
theorem unI{f:Value->Sem Value}{g:Int->Int}
  (rule:∀(i:Int) (t:Tok) (s:Shared) (Q:Value->Shared->Prop) (E:Value->Shared->Prop),Q (.int (g i) s.toks) { s with toks:=s.toks+1 }->wpAny (model X.prog X.w) X.A (f (.int i t)) Q E s) :
  UnR X f (rU fun i=>.int (g i)):=by
 intro pins s σ H x v Q I rx h
 obtain⟨i,rfl,q⟩:=h
 obtain⟨t,rfl⟩:=rx
 exact rule i t s _ _ ⟨.int (g i),H,I.tok _,⟨_,rfl⟩,q⟩
theorem un_neg:UnR X (unaryOp .USub) (rU fun i=>.int (-i)):=unI fun _ _ _ _ _ q=>neg_int q
end
def scal:V->V->Bool
 |.non,.non=>true | .non,.int _=>true | .int _,.non=>true | .non,.bl _=>true | .bl _,.non=>true | .non,.str _=>true | .str _,.non=>true
 |.int _,.int _=>true | .bl _,.bl _=>true | .str _,.str _=>true | .byt _,.byt _=>true
 |.int _,.str _=>true | .str _,.int _=>true | .bl _,.str _=>true | .str _,.bl _=>true
 |_,_=>false
def rEq:R2:=fun x y H Q=>scal x y=true∧Q (.bl (decide (x=y))) H
def rNe:R2:=fun x y H Q=>scal x y=true∧Q (.bl (!decide (x=y))) H
theorem dec_int{i j:Int}:decide (V.int i=V.int j)=(i==j):=by
 rw[Bool.eq_iff_iff]
 simp
theorem dec_bl{i j:Bool}:decide (V.bl i=V.bl j)=(i==j):=by
 rw[Bool.eq_iff_iff]
 simp
theorem dec_str{i j:Str}:decide (V.str i=V.str j)=(i==j):=by
 rw[Bool.eq_iff_iff]
 simp
theorem dec_byt{i j:Array UInt8}:decide (V.byt i=V.byt j)=(i.toList==j.toList):=by
 rw[Bool.eq_iff_iff]
 cases i
 cases j
 simp
section
variable{X:Cx}{a b c:Expr}{ta tb tc:TE}{pos:Pos}
theorem fin_bl{pins:List (Addr×Obj)}{σ:St}{H:Hp}{s:Shared}{Q:VK}{k k':Bool}(I:Inv X pins σ H s)(q:Q (.bl k) H)(e:k=k'):EP X pins σ Q (.bool k') s:=by
 subst e
 exact⟨.bl k,H,I,rfl,q⟩
theorem op_eq:OpR X (compareOp .Eq) rEq:=by
 intro pins s σ H x y v u Q I rx ry h
 obtain⟨hs,q⟩:=h
 cases x with
 |non=>
   cases rx
   cases y with
   |non=>cases ry;exact PySem.EqNone.eq_none_none (fin_bl I q (by simp))
   |bl j=>cases ry;exact PySem.EqNone.eq_none_bool (fin_bl I q (by simp))
   |int j=>obtain⟨t',rfl⟩:=ry;exact PySem.EqNone.eq_none_int (fin_bl I q (by simp))
   |str j=>obtain⟨t',rfl⟩:=ry;exact PySem.EqNone.eq_none_str (fin_bl I q (by simp))
   |_=>exact absurd (show false=true from hs) Bool.false_ne_true
 |bl i=>
   cases rx
   cases y with
   |non=>cases ry;exact PySem.EqNone.eq_bool_none (fin_bl I q (by simp))
   |bl j=>cases ry;exact eq_bool (fin_bl I q dec_bl)
   |str j=>obtain⟨t',rfl⟩:=ry;exact PySem.EqMixed.eq_bool_str (fin_bl I q (by simp))
   |_=>exact absurd (show false=true from hs) Bool.false_ne_true
 |int i=>
   obtain⟨t,rfl⟩:=rx
   cases y with
   |non=>cases ry;exact PySem.EqNone.eq_int_none (fin_bl I q (by simp))
   |int j=>obtain⟨t',rfl⟩:=ry;exact eq_int (fin_bl I q dec_int)
   |str j=>obtain⟨t',rfl⟩:=ry;exact PySem.EqMixed.eq_int_str (fin_bl I q (by simp))
   |_=>exact absurd (show false=true from hs) Bool.false_ne_true
 |str i=>
   obtain⟨t,rfl⟩:=rx
   cases y with
   |non=>cases ry;exact PySem.EqNone.eq_str_none (fin_bl I q (by simp))
   |bl j=>cases ry;exact PySem.EqMixed.eq_str_bool (fin_bl I q (by simp))
   |int j=>obtain⟨t',rfl⟩:=ry;exact PySem.EqMixed.eq_str_int (fin_bl I q (by simp))
   |str j=>obtain⟨t',rfl⟩:=ry;exact eq_str (fin_bl I q dec_str)
   |_=>exact absurd (show false=true from hs) Bool.false_ne_true
 |byt i=>
   obtain⟨t,rfl⟩:=rx
   cases y with
   |byt j=>obtain⟨t',rfl⟩:=ry;exact PySem.W.eq_bytes (fin_bl I q dec_byt)
   |_=>exact absurd (show false=true from hs) Bool.false_ne_true
 |_=>cases y<;>exact absurd (show false=true from hs) Bool.false_ne_true
theorem op_ne:OpR X (compareOp .NotEq) rNe:=by
 intro pins s σ H x y v u Q I rx ry h
 obtain⟨hs,q⟩:=h
 cases x with
 |non=>
   cases rx
   cases y with
   |non=>cases ry;exact PySem.EqNone.ne_none_none (fin_bl I q (by simp))
   |bl j=>cases ry;exact PySem.EqNone.ne_none_bool (fin_bl I q (by simp))
   |int j=>obtain⟨t',rfl⟩:=ry;exact PySem.EqNone.ne_none_int (fin_bl I q (by simp))
   |str j=>obtain⟨t',rfl⟩:=ry;exact PySem.EqNone.ne_none_str (fin_bl I q (by simp))
   |_=>exact absurd (show false=true from hs) Bool.false_ne_true
 |bl i=>
   cases rx
   cases y with
   |non=>cases ry;exact PySem.EqNone.ne_bool_none (fin_bl I q (by simp))
   |bl j=>cases ry;exact ne_bool (fin_bl I q (congrArg not dec_bl))
   |str j=>obtain⟨t',rfl⟩:=ry;exact PySem.EqMixed.ne_bool_str (fin_bl I q (by simp))
   |_=>exact absurd (show false=true from hs) Bool.false_ne_true
 |int i=>
   obtain⟨t,rfl⟩:=rx
   cases y with
   |non=>cases ry;exact PySem.EqNone.ne_int_none (fin_bl I q (by simp))
   |int j=>obtain⟨t',rfl⟩:=ry;exact ne_int (fin_bl I q (congrArg not dec_int))
   |str j=>obtain⟨t',rfl⟩:=ry;exact PySem.EqMixed.ne_int_str (fin_bl I q (by simp))
   |_=>exact absurd (show false=true from hs) Bool.false_ne_true
 |str i=>
   obtain⟨t,rfl⟩:=rx
   cases y with
   |non=>cases ry;exact PySem.EqNone.ne_str_none (fin_bl I q (by simp))
   |bl j=>cases ry;exact PySem.EqMixed.ne_str_bool (fin_bl I q (by simp))
   |int j=>obtain⟨t',rfl⟩:=ry;exact PySem.EqMixed.ne_str_int (fin_bl I q (by simp))
   |str j=>obtain⟨t',rfl⟩:=ry;exact ne_str (fin_bl I q (congrArg not dec_str))
   |_=>exact absurd (show false=true from hs) Bool.false_ne_true
 |byt i=>
   obtain⟨t,rfl⟩:=rx
   cases y with
   |byt j=>obtain⟨t',rfl⟩:=ry;exact PySem.W.ne_bytes (fin_bl I q (congrArg not dec_byt))
   |_=>exact absurd (show false=true from hs) Bool.false_ne_true
 |_=>cases y<;>exact absurd (show false=true from hs) Bool.false_ne_true
theorem op_lt:OpR X (compareOp .Lt) (rI0 fun i j=>.bl (decide (i<j))):=opB0 fun _ _ _ _ _ _ _ q=>lt_int q
theorem op_le:OpR X (compareOp .LtE) (rI0 fun i j=>.bl (decide (i≤j))):=opB0 fun _ _ _ _ _ _ _ q=>le_int q
theorem op_gt:OpR X (compareOp .Gt) (rI0 fun i j=>.bl (decide (j<i))):=opB0 fun _ _ _ _ _ _ _ q=>gt_int q
theorem op_ge:OpR X (compareOp .GtE) (rI0 fun i j=>.bl (decide (j≤i))):=opB0 fun _ _ _ _ _ _ _ q=>ge_int q
theorem op_isN:OpR X (compareOp .Is) (fun x y H Q=>y=.non∧Q (.bl (decide (x=.non))) H):=by
 intro pins s σ H x y v u Q I rx ry h
 obtain⟨rfl,q⟩:=h
 cases ry
 refine is_none_gen (fin_bl I q ?_)
 cases x<;>first
  |(cases rx;rfl)
  |(obtain⟨t,rfl⟩:=rx;rfl)
theorem OpR.or{f:Value->Value->Sem Value}{r r':R2}(h:OpR X f r)(h':OpR X f r'):OpR X f (fun x y H Q=>r x y H Q∨r' x y H Q):=by
 intro pins s σ H x y v u Q I rx ry q
 rcases q with q | q
 ·exact h pins s σ H x y v u Q I rx ry q
 ·exact h' pins s σ H x y v u Q I rx ry q
theorem nomark(b:Expr){op:CmpOp}(h:op≠.In:=by decide)(h2:op≠.NotIn:=by decide):behindInMarks op b=false:=by
 have e1:(op==CmpOp.In)=false:=by cases op<;>first | rfl | exact absurd rfl h
 have e2:(op==CmpOp.NotIn)=false:=by cases op<;>first | rfl | exact absurd rfl h2
 cases b<;>simp[behindInMarks,e1,e2]
theorem pe_cmpR{op:CmpOp}{r:R2}(ho:OpR X (compareOp op) r)(ha:PE X a ta)(hb:PE X b tb)(hm:behindInMarks op b=false):PE X (.Compare a [op] [b] pos) (tOp r ta tb):=by
 intro pins s σ H Q I h
 exact wpAny_Compare1 (binT ha hb I h fun v u s2 x y H2 I2 rx ry q=>ho pins s2 σ H2 x y v u Q I2 rx ry q) hm
def tTest(t:TE):TT:=fun σ H Q=>t σ H fun x H'=>∃k,x=.bl k∧Q k H'
theorem pt_cmpR{op:CmpOp}{r:R2}(ho:OpR X (compareOp op) r)(ha:PE X a ta)(hb:PE X b tb)(hm:behindInMarks op b=false):PT X (.Compare a [op] [b] pos) (tTest (tOp r ta tb)):=by
 intro pins s σ H Q I h
 refine wpAny_isTrue_Compare1 (thn (ha pins s σ H _ I h) fun v s1 ⟨x,H1,I1,r1,q1⟩=>thn (hb pins s1 σ H1 _ I1 q1) fun u s2 ⟨y,H2,I2,r2,q2⟩=>
  thn (ho pins s2 σ H2 x y v u _ I2 r1 r2 q2) fun c s3 ⟨z,H3,I3,r3,k,e,q3⟩=>?_) hm
 subst e
 cases r3
 exact wpAny_truthy_bool ⟨H3,I3,q3⟩
def tChain(r r':R2)(ta tb tc:TE):TE:=fun σ H Q=>ta σ H fun x H1=>tb σ H1 fun y H2=>r x y H2 fun z H3=>∃k,z=.bl k ∧
 (if k=true then tc σ H3 fun w' H4=>r' y w' H4 Q else Q (.bl false) H3)
theorem pe_chain{op op':CmpOp}{r r':R2}(ho:OpR X (compareOp op) r)(ho':OpR X (compareOp op') r')(ha:PE X a ta)(hb:PE X b tb)(hc:PE X c tc)
  (hm:lastMarks [op,op'] [b,c]=false:=by with_unfolding_all rfl):PE X (.Compare a [op,op'] [b,c] pos) (tChain r r' ta tb tc):=by
 intro pins s σ H Q I h
 refine Compare_chain (thn (ha pins s σ H _ I h) fun v s1 ⟨x,H1,I1,r1,q1⟩=>chain_link (thn (hb pins s1 σ H1 _ I1 q1) fun u s2 ⟨y,H2,I2,r2,q2⟩=>
  thn (ho pins s2 σ H2 x y v u _ I2 r1 r2 q2) fun d s3 ⟨z,H3,I3,r3,k,e,q3⟩=>?_)) hm
 subst e
 cases r3
 refine wpAny_truthy_bool ?_
 cases k with
 |false=>exact ite_ff ⟨.bl false,H3,I3,rfl,q3⟩
 |true=>exact ite_tt (chain_last (thn (hc pins s3 σ H3 _ I3 q3) fun w' s4 ⟨z',H4,I4,r4,q4⟩=>ho' pins s4 σ H4 y z' u w' Q I4 r2 r4 q4))
theorem pt_chain {op op':CmpOp}{r r':R2} (ho:OpR X (compareOp op) r) (ho':OpR X (compareOp op') r') (ha:PE X a ta) (hb:PE X b tb) (hc:PE X c tc)
  (hm:lastMarks [op,op'] [b,c]=false:=by with_unfolding_all rfl):PT X (.Compare a [op,op'] [b,c] pos) (tTest (tChain r r' ta tb tc)):=by
 intro pins s σ H Q I h
 refine isTrue_chain (thn (ha pins s σ H _ I h) fun v s1 ⟨x,H1,I1,r1,q1⟩=>test_link (thn (hb pins s1 σ H1 _ I1 q1) fun u s2 ⟨y,H2,I2,r2,q2⟩=>
  thn (ho pins s2 σ H2 x y v u _ I2 r1 r2 q2) fun d s3 ⟨z,H3,I3,r3,k,e,q3⟩=>?_)) hm
 subst e
 cases r3
 refine wpAny_truthy_bool ?_
 cases k with
 |false=>
   obtain⟨k',e',q'⟩:=q3
   cases e'
   exact ite_ff ⟨H3,I3,q'⟩
 |true=>
   refine ite_tt (test_last (thn (hc pins s3 σ H3 _ I3 q3) fun w' s4 ⟨z',H4,I4,r4,q4⟩=>thn (ho' pins s4 σ H4 y z' u w' _ I4 r2 r4 q4) fun d' s5 ⟨z2,H5,I5,r5,k2,e2,q5⟩=>?_))
   subst e2
   cases r5
   exact wpAny_truthy_bool ⟨H5,I5,q5⟩
def TruV(K:PySem.W.Frag)(x:V)(H:Hp)(k:Bool):Prop:=
 match x with
 |.non=>k=false
 |.bl b=>k=b
 |.int i=>k=(i != 0)
 |.str y=>y.length≤sizeLine∧k=((y.length:Int) != 0)
 |.byt y=>y.size≤sizeLine∧k=((y.size:Int) != 0)
 |.ref p=>(∃xs,SqL K H p xs∧k=!xs.isEmpty)∨(∃xs,SqT K H p xs∧k=!xs.isEmpty)∨∃kvs,H p=some (.dK kvs)∧k=!kvs.isEmpty
 |_=>False
theorem isEmpty_kv{κ:Type}{kvs:List (κ×V)}{vs:List (κ×Value)}(r:KV kvs vs):(!vs.isEmpty)=!kvs.isEmpty:=by
 cases r<;>rfl
theorem isEmpty_of{xs:List V}{its:List Value}(r:Vals xs its):(!its.toArray.isEmpty)=!xs.isEmpty:=by
 cases r<;>simp
theorem line63:(sizeLine:Nat)<2^63:=by rw[sizeLine_eq];decide
theorem tru_ok:TruR X (fun x H Q=>∃ k,TruV X.K x H k∧Q k H):=by
 intro pins s σ H x v Q I rx h
 obtain⟨k,e,q⟩:=h
 have hl:=line63
 have hs:sizeLine=16777216:=sizeLine_eq
 cases x with
 |non=>
   cases rx
   have e':k=false:=e
   subst e'
   exact truthy_none ⟨H,I,q⟩
 |bl b=>
   cases rx
   have e':k=b:=e
   subst e'
   exact wpAny_truthy_bool ⟨H,I,q⟩
 |int i=>
   obtain⟨t,rfl⟩:=rx
   have e':k=(i != 0):=e
   subst e'
   exact PySem.P.truthy_int ⟨H,I,q⟩
 |str y=>
   obtain⟨t,rfl⟩:=rx
   obtain⟨hy,e'⟩:y.length≤sizeLine∧k=((y.length:Int) != 0):=e
   subst e'
   exact PySem.P.truthy_str (by omega) ⟨H,I.tok _,q⟩
 |byt y=>
   obtain⟨t,rfl⟩:=rx
   obtain⟨hy,e'⟩:y.size≤sizeLine∧k=((y.size:Int) != 0):=e
   subst e'
   exact PySem.W.truthy_bytes (by omega) ⟨H,I.tok _,q⟩
 | ref p=>
   cases rx
   have e':(∃xs,SqL X.K H p xs∧k=!xs.isEmpty)∨(∃xs,SqT X.K H p xs∧k=!xs.isEmpty)∨∃kvs,H p=some (.dK kvs)∧k=!kvs.isEmpty:=e
   rcases e' with ⟨xs,hx,e'⟩ | ⟨xs,hx,e'⟩ | ⟨kvs,hx,e'⟩
   ·subst e'
    obtain⟨its,r,pl,hz⟩:=I.list hx
    have hlen:=r.length
    exact wpAny_truthy_list pl.isList (by simp only[List.size_toArray];omega) ⟨H,I.tok _,by rw[isEmpty_of r];exact q⟩
   ·subst e'
    obtain⟨its,r,pl,hz⟩:=I.tuple hx
    have hlen:=r.length
    exact truthy_tuple pl (by simp only[List.size_toArray];omega) ⟨H,I.tok _,by rw[isEmpty_of r];exact q⟩
   ·subst e'
    obtain⟨hz,hS,vs,r,m⟩:kvs.length≤sizeLine∧(p==sysModules)=false∧∃vs,KV kvs vs∧s.heap.DictOf (mixKind X.prog X.w) p vs:=I.hok p _ hx
    have hlen:kvs.length=vs.length:=Paired.length r
    exact wpAny_truthy_dict hS m (by omega) ⟨H,I.tok _,by rw[isEmpty_kv r];exact q⟩
 |_=>exact (show False from e).elim
theorem pt_truth(ha:PE X a ta)(he:∀whole,isTrue a X.env whole=(do let v ←whole;standAt a.pos;holding [v] (truthy v))) :
  PT X a (fun σ H Q=>ta σ H fun x H'=>∃k,TruV X.K x H' k∧Q k H'):=by
 intro pins s σ H Q I h
 exact isTrue_plain (thn (ha pins s σ H _ I h) fun v s1 ⟨x,H1,I1,r1,q1⟩=>tru_ok pins s1 σ H1 x v Q I1 r1 q1) (he _)
theorem op_add_str:OpR X (binaryOp .Add) (fun x y H Q=>∃i j,x=.str i∧y=.str j∧i.length+j.length≤sizeLine∧Q (.str (i++j)) H):=by
 intro pins s σ H x y v u Q I rx ry h
 obtain⟨i,j,rfl,rfl,hz,q⟩:=h
 obtain⟨t,rfl⟩:=rx
 obtain⟨t',rfl⟩:=ry
 exact add_str (fun t' tk=>⟨.str (i++j),H,I.tok _,⟨_,rfl⟩,q⟩) hz
theorem vals1{x:V}{us:List Value}(r:Vals [x] us):∃u,us=[u]∧RelV x u:=by
 cases r with
 |cons r1 r2=>cases r2;exact⟨_,rfl,r1⟩
theorem vals2 {x y:V}{us:List Value} (r:Vals [x,y] us):∃ u w',us=[u,w']∧RelV x u∧RelV y w':=by
 cases r with
 |cons r1 r2=>
   cases r2 with
   |cons r3 r4=>cases r4;exact⟨_,_,rfl,r1,r3⟩
theorem call_max2(hc:X.calm=true):CallR X (.builtin "max") (fun xs H Q=>∃i j,xs=[.int i,.int j]∧Q (.int (if j > i then j else i)) H):=by
 intro pins s σ H xs us Q I r h
 obtain⟨i,j,rfl,q⟩:=h
 obtain⟨u,w',rfl,⟨t,rfl⟩,⟨t',rfl⟩⟩:=vals2 r
 refine max_two_ints (I.ok.hd hc) fun h' tk k=>⟨_,H,I.kept k,?_,q⟩
 by_cases hj:j > i
 ·rw[if_pos hj,if_pos hj];exact⟨_,rfl⟩
 ·rw[if_neg hj,if_neg hj];exact⟨_,rfl⟩
end
open PySem PySem.Spec PyProof.Rows
structure ObjM(h:Heap)(x dx C:Addr)(mA:Str->Option Value):Prop where
 obj:h.get? x=some (PySem.W.instObj C dx)
 ns:h.Ns1 dx mA
 ne:dx≠x
theorem lookIn_ns {h:Heap}{dx:Addr}{mA:Str->Option Value} (n:h.Ns1 dx mA):∃ od,h.get? dx=some od∧∀ name,PySem.W.lookIn name od=some (mA name):=by
 obtain⟨o,es,ep,ho,hd,hk,_,hm⟩:=n
 refine⟨o,ho,fun name=>?_⟩
 have e:=hm name
 unfold nsFind findBy at e
 rw[←Array.find?_toList] at e
 unfold PySem.W.lookIn
 rw[hd]
 dsimp only
 split
 ·rename_i y q
  rw[q] at e
  exact congrArg some e
 ·rename_i q
  rw[q] at e
  have a:es.toList.any (·.refKey)=false:=by
   rw[List.any_eq_false]
   intro y hy
   obtain⟨z,t,hkey⟩:=hk y (Array.mem_toList_iff.mp hy)
   simp[DictEntry.refKey,hkey]
  have a':¬ es.toList.any (·.refKey)=true:=by rw[a];exact Bool.false_ne_true
  rw[if_neg a']
  exact congrArg some e
theorem ObjM.look{h:Heap}{x dx C:Addr}{mA:Str->Option Value}(I:ObjM h x dx C mA):∃od,PySem.W.InstAt h x (PySem.W.instObj C dx) C (some od)∧∀name,PySem.W.lookIn name od=some (mA name):=
 let ⟨od,ho,hl⟩:=lookIn_ns I.ns
 ⟨od,⟨I.obj,rfl,rfl,ho⟩,hl⟩
section
variable{prog:Program}{w:World}{A:Around}{E:Value->Shared->Prop}{s:Shared}{K:PySem.W.Frag}{x dx C f:Addr}{mA:Str->Option Value}{name:Str}{v:Value}
theorem get_map{expr:Bool}{Q:Value->Shared->Prop}(X:K.In s.heap)(I:ObjM s.heap x dx C mA)(hg:PySem.W.plainGet K C name=true)(hh:PySem.W.hasDictIn K C=true)
  (ha:PySem.W.findIn K (.ref C) name=some none) (hv:mA name=some v) (hv':PySem.W.handedIn v=true) (h:Q v { s with toks:=s.toks+1 }) :
  wpAny (model prog w) A (getAttr (.ref x) name expr) Q E s:=by
 obtain⟨od,J,hl⟩:=I.look
 exact PySem.W.get_value X J (PySem.W.plainGet_of hg).1 (PySem.W.findObj_own hh ha rfl (by rw[hl,hv])) hv' h
theorem set_map{ns:List Str}{Q:Unit->Shared->Prop}(X:K.In s.heap)(I:ObjM s.heap x dx C mA)
  (hs:PySem.W.findIn K (.ref C) "__setattr__"=some (some (.builtin "object.__setattr__"))) (hp:PySem.W.plainOver K C=true) (ht:PySem.W.takerIn K C name=some none) (hh:PySem.W.hasDictIn K C=true)
  (hw:PySem.Within mA ns) (hsz:ns.length≤sizeLine)
  (h:∀h',ObjM h' x dx C (fun y=>if y=name then some v else mA y)->Heap.SameBut dx s.heap h'->Q () { s with heap:=h',toks:=s.toks+2 }) :
  wpAny (model prog w) A (setAttr (.ref x) name v) Q E s:=by
 obtain⟨od,J,hl⟩:=I.look
 refine PySem.W.set_plain X J hs (PySem.W.osa_open (s:={ s with toks:=s.toks+1 }) (r:=none) X J hp ht fun b=>?_)
 obtain⟨cd,hc,hd'⟩:=PySem.W.any_some hh
 have hx:s.heap.get? x=some ⟨.ref C,some dx,.plain,#[]⟩:=I.obj
 refine wpAny_bind (wpAny_pure (wpAny_bind (wpAny_bind (wpAny_loadPart hx (wpAny_bind (PySem.W.Looks.here (s:={ s with toks:=s.toks+1 }) (PySem.W.looks_clsIn X hc) ?_))))))
 rw[hd']
 refine wpAny_pure (a:=some dx) (wpAny_bind (wpAny_pure (wpAny_bind ?_)))
 refine wpAny_nsSet1 (s:={ s with toks:=s.toks+1 }) I.ns fun h' hn2 hs2=>?_
 obtain⟨oD,esD,epD,hoD,hdD,hcD⟩:=hn2.count (PySem.Within.cons name v hw)
 refine wpAny_bind (wpAny_lookBehind hoD (by rw[hdD];exact pastItsLine_dict (Nat.le_trans hcD (by rw[List.length_cons];omega))) ?_)
 exact wpAny_pure (h _ ⟨(hs2.2 _ (Ne.symm I.ne)).trans I.obj,hn2,I.ne⟩ hs2)
theorem make_map {R:Result->Shared->Prop}{vs:List Value}{kw:List (Str×Value)} (X:K.In s.heap) (hm:PySem.W.makesIn K C=true)
  (hi:PySem.W.findIn K (.ref C) "__init__"=some (some (.ref f))) (hf:PySem.W.typeIn K (.ref f)=some (.type "function"))
  (h:codeAny (model prog w) (A.under (.builtin "type.__call__" ⟨.ref C::vs,kw⟩)) (.call (.ref f) ⟨.ref (s.heap.objs.size+1)::vs,kw⟩) (PySem.W.InitBack (s.heap.objs.size+1) R)
    { s with heap:=(s.heap.push PySem.W.emptyDict).push (PySem.W.instObj C s.heap.objs.size) }) :
  codeAny (model prog w) A (.call (.ref C) ⟨vs,kw⟩) R s:=by
 obtain⟨hh,g,d,t,os⟩:=s
 exact PySem.W.make_core (PySem.W.makes_of X hm) (PySem.W.looks_findIn X hi) (fun self=>PySem.W.bind_fn X self hf) (.inl rfl) h
end
def putF(f:Str)(v:V):List (Str×V)->List (Str×V)
 |[]=>[(f,v)]
 |(g,x)::r=>if g=f then (g,v)::r else (g,x)::putF f v r
theorem lookup_putF (f g:Str) (v:V):∀ fs:List (Str×V),(putF f v fs).lookup g=if g=f then some v else fs.lookup g
 | []=>by
   show List.lookup g [(f,v)]=_
   by_cases h:g=f
   ·have hb:(g==f)=true:=beq_iff_eq.mpr h
    simp only[List.lookup,hb,if_pos h]
   ·have hb:(g==f)=false:=beq_eq_false_iff_ne.mpr h
    simp only[List.lookup,hb,if_neg h]
 | (k,x)::r=>by
   have ih:=lookup_putF f g v r
   rw[show putF f v ((k,x)::r)=(if k=f then (k,v)::r else (k,x)::putF f v r) from rfl]
   by_cases hk:k=f
   ·rw[if_pos hk]
    by_cases h:g=k
    ·have hb:(g==k)=true:=beq_iff_eq.mpr h
     simp only[List.lookup,hb,if_pos (h.trans hk)]
    ·have hb:(g==k)=false:=beq_eq_false_iff_ne.mpr h
     simp only[List.lookup,hb,if_neg (fun e:g=f=>h (e.trans hk.symm))]
   ·rw[if_neg hk]
    by_cases h:g=k
    ·have hb:(g==k)=true:=beq_iff_eq.mpr h
     simp only[List.lookup,hb,if_neg (fun e:g=f=>hk (h.symm.trans e))]
    ·have hb:(g==k)=false:=beq_eq_false_iff_ne.mpr h
     simp only[List.lookup,hb]
     exact ih
theorem keys_putF (f:Str) (v:V):∀ fs:List (Str×V),f∈(putF f v fs).map (·.1)∧∀ g,g∈fs.map (·.1)->g∈(putF f v fs).map (·.1)
 |[]=>⟨by simp[putF],fun g h=>by simp at h⟩
 | (k,x)::r=>by
   obtain⟨i1,i2⟩:=keys_putF f v r
   rw[show putF f v ((k,x)::r)=(if k=f then (k,v)::r else (k,x)::putF f v r) from rfl]
   by_cases hk:k=f
   ·rw[if_pos hk]
    subst hk
    exact⟨by simp,fun g h=>by simpa using h⟩
   ·rw[if_neg hk]
    refine⟨?_,fun g h=>?_⟩
    ·rw[List.map_cons]
     exact List.mem_cons_of_mem _ i1
    ·rw[List.map_cons] at h ⊢
     rcases List.mem_cons.mp h with e | e
     ·exact List.mem_cons.mpr (.inl e)
     ·exact List.mem_cons_of_mem _ (i2 g e)
theorem length_putF (f:Str) (v:V):∀ fs:List (Str×V),(putF f v fs).length≤fs.length + 1
 |[]=>by simp[putF]
 |(k,x)::r=>by
   have ih:=length_putF f v r
   rw[show putF f v ((k,x)::r)=(if k=f then (k,v)::r else (k,x)::putF f v r) from rfl]
   by_cases hk:k=f
   ·rw[if_pos hk,List.length_cons,List.length_cons];omega
   ·rw[if_neg hk,List.length_cons,List.length_cons];omega
theorem RelO.some_of{v:V}{o:Option Value}(r:RelO (some v) o):∃u,o=some u∧RelV v u:=by
 cases o with
 |none=>exact (show False from r).elim
 |some u=>exact⟨u,rfl,r⟩
theorem handed_of{v:V}{u:Value}(r:RelV v u):PySem.W.handedIn u=true:=by
 cases v with
 |non=>cases (show u=Value.none from r);rfl
 |bl b=>cases (show u=Value.bool b from r);rfl
 |int i=>obtain⟨t,e⟩:=(show ∃t,u=Value.int i t from r);cases e;rfl
 |str x=>obtain⟨t,e⟩:=(show ∃t,u=Value.str x t from r);cases e;rfl
 |byt b=>obtain⟨t,e⟩:=(show ∃t,u=Value.bytes b t from r);cases e;rfl
 |flt b=>obtain⟨t,e⟩:=(show ∃t,u=Value.float b t from r);cases e;rfl
 |ref a=>cases (show u=Value.ref a from r);rfl
 |ty n=>cases (show u=Value.type n from r);rfl
section
variable{P:Program}{w:World}{H H':Hp}{h h':Heap}{a C dx:Addr}{fs fs':List (Str×V)}
theorem ins_get(hok:HOk P w H h)(e:H a=some (.ins C dx fs)):∃mA,ObjM h a dx C mA∧(∀f,RelO (fs.lookup f) (mA f))∧PySem.Within mA (fs.map (·.1))∧fs.length≤1000∧H dx=some (.own a):=by
 obtain⟨d,z,ne,ob,mA,n,r,q⟩:=(show ObjOk P w H h a (.ins C dx fs) from hok a _ e)
 exact⟨mA,⟨ob,n,ne⟩,r,q,z,d⟩
end
structure Cls(K:PySem.W.Frag)(C:Addr):Prop where
 pg:PySem.W.plainGet K C Str.empty=true
 hd:PySem.W.hasDictIn K C=true
 po:PySem.W.plainOver K C=true
 sa:PySem.W.findIn K (.ref C) "__setattr__"=some (some (.builtin "object.__setattr__"))
theorem Cls.get{K:PySem.W.Frag}{C:Addr}(c:Cls K C)(f:Str):PySem.W.plainGet K C f=true:=c.pg
def NoAttr(K:PySem.W.Frag)(C:Addr)(f:Str):Prop:=PySem.W.findIn K (.ref C) f=some none
theorem NoAttr.taker{K:PySem.W.Frag}{C:Addr}{f:Str}(n:NoAttr K C f):PySem.W.takerIn K C f=some none:=by
 unfold PySem.W.takerIn
 rw[show PySem.W.findIn K (.ref C) f=some none from n]
 rfl
section
variable{X:Cx}{pins:List (Addr×Obj)}{σ:St}{H:Hp}{s:Shared}{a C dx:Addr}{fs:List (Str×V)}{f:Str}{v:V}{A:Around}{E:Value->Shared->Prop}
theorem getattr_ok{b:Bool}{Q:Value->Shared->Prop}(I:Inv X pins σ H s)(e:H a=some (.ins C dx fs))(c:Cls X.K C)(n:NoAttr X.K C f)(l:fs.lookup f=some v)
  (h:∀u s',Inv X pins σ H s'->RelV v u->Q u s'):wpAny (model X.prog X.w) A (getAttr (.ref a) f b) Q E s:=by
 obtain⟨mA,O,r,_,_,_⟩:=ins_get I.hok e
 obtain⟨u,hu,ru⟩:=RelO.some_of (v:=v) (o:=mA f) (by rw[←l];exact r f)
 exact get_map I.kIn O (c.get f) c.hd n hu (handed_of ru) (h u _ (I.tok _) ru)
theorem setattr_ok {y:V}{u:Value}{Q:Unit->Shared->Prop} (I:Inv X pins σ H s) (e:H a=some (.ins C dx fs)) (c:Cls X.K C) (n:NoAttr X.K C f) (hl:fs.length<1000) (ry:RelV y u)
  (h:∀s',Inv X pins σ (upd H a (.ins C dx (putF f y fs))) s'->Q () s'):wpAny (model X.prog X.w) A (setAttr (.ref a) f u) Q E s:=by
 obtain⟨mA,O,r,wi,_,ho⟩:=ins_get I.hok e
 have hz:(fs.map (·.1)).length≤sizeLine:=by rw[List.length_map,sizeLine_eq];omega
 refine set_map I.kIn O c.sa c.po n.taker c.hd wi hz fun h' O' sb=>h _ ?_
 have hd:∃o,h'.get? dx=some o:=let ⟨o,_,_,e',_⟩:=O'.ns;⟨o,e'⟩
 refine I.write (x:=a) (e:=dx) (by rw[e];exact True.intro) (.inr ho) (fun b q hb z=>(sb.2 b hb).trans z) hd ?_
 refine⟨by rw[upd_ne O.ne];exact ho,?_,O.ne,O'.obj,_,O'.ns,fun g=>?_,fun g hg=>?_⟩
 ·have:=length_putF f y fs;omega
 ·show RelO ((putF f y fs).lookup g) (if g=f then some u else mA g)
  rw[lookup_putF]
  by_cases q:g=f
  ·rw[if_pos q,if_pos q];exact ry
  ·rw[if_neg q,if_neg q];exact r g
 ·by_cases q:g=f
  ·rw[q];exact (keys_putF f y fs).1
  ·refine (keys_putF f y fs).2 g (wi g fun z=>hg ?_)
   show (if g=f then some u else mA g)=none
   rw[if_neg q];exact z
theorem Inv.made(I:Inv X pins σ H s):Inv X pins σ (upd (upd H s.heap.objs.size (.own (s.heap.objs.size+1))) (s.heap.objs.size+1) (.ins C s.heap.objs.size []))
  { s with heap:=(s.heap.push PySem.W.emptyDict).push (PySem.W.instObj C s.heap.objs.size) }:=by
 have e1:(s.heap.push PySem.W.emptyDict).get? s.heap.objs.size=some PySem.W.emptyDict:=Heap.get?_push_size s.heap rfl
 have e2:((s.heap.push PySem.W.emptyDict).push (PySem.W.instObj C s.heap.objs.size)).get? (s.heap.objs.size+1)=some (PySem.W.instObj C s.heap.objs.size):=by
  have:=Heap.get?_push_size (s.heap.push PySem.W.emptyDict) (o:=PySem.W.instObj C s.heap.objs.size) rfl
  rwa [Heap.size_push] at this
 have e3:(s.heap.push PySem.W.emptyDict).Ns s.heap.objs.size (fun _=>none):=⟨PySem.W.emptyDict,#[],_,e1,rfl,(fun e he=>absurd he (by simp)),fun _=>rfl⟩
 have I1:=I.laid (a:=s.heap.objs.size) (o:=.own (s.heap.objs.size+1)) (h':=s.heap.push PySem.W.emptyDict) (t':=s.toks) (fun b u q=>Heap.get?_push_of_some _ q) (Nat.le_refl _) ⟨_,e1⟩
 refine I1.laid (a:=s.heap.objs.size+1) (o:=.ins C s.heap.objs.size []) (t':=s.toks) (fun b u q=>Heap.get?_push_of_some _ q) (Nat.le_of_eq (Heap.size_push _ _)) ?_
 have ne:s.heap.objs.size≠s.heap.objs.size+1:=Nat.ne_of_lt (Nat.lt_succ_self _)
 refine⟨by rw[upd_ne ne,upd_same],Nat.zero_le _,ne,e2,fun _=>none,(Heap.Ns1.of_empty e3).at fun o q=>Heap.get?_push_of_some _ q,fun _=>True.intro,fun y hy=>absurd rfl hy⟩
theorem attr_of{prog:Program}{w:World}{env:Env}{e:Expr}{f:Str}{pos:Pos}{s:Shared}{Q:Value->Shared->Prop}(hb:attributeBase e f env (eval e env)=eval e env)
  (h:wpAny (model prog w) A (eval e env) (fun o s₁=>wpAny (model prog w) A (getAttr o f true) Q E s₁) E s):wpAny (model prog w) A (eval (.Attribute e f pos) env) Q E s:=
 Attribute_any_ h (by rw[arm_eval_Attribute,hb])
end
def tFld(K:PySem.W.Frag)(ta:TE)(f:Str):TE:=fun σ H Q=>ta σ H fun x H1=>∃a C dx fs v,x=.ref a∧H1 a=some (.ins C dx fs)∧Cls K C∧NoAttr K C f∧fs.lookup f=some v∧Q v H1
def sFld(K:PySem.W.Frag)(ta tv:TE)(f:Str):TS:=fun D σ H=>tv σ H fun y H1=>ta σ H1 fun x H2=>∃a C dx fs,x=.ref a∧H2 a=some (.ins C dx fs)∧Cls K C∧NoAttr K C f∧fs.length<1000 ∧
 D.nx σ (upd H2 a (.ins C dx (putF f y fs)))
section
variable{X:Cx}{o e value:Expr}{f:Str}{pos pos' tpos:Pos}{ta tv:TE}
theorem pe_fld(he:PE X e ta)(hb:attributeBase e f X.env (eval e X.env)=eval e X.env):PE X (.Attribute e f pos) (tFld X.K ta f):=by
 intro pins s σ H Q I h
 refine attr_of hb (thn (he pins s σ H _ I h) fun u s1 ⟨x,H1,I1,rx,a,C,dx,fs,v,ex,ea,c,n,l,q⟩=>?_)
 subst ex
 obtain rfl:u=Value.ref a:=rx
 exact getattr_ok I1 ea c n l fun u' s2 I2 ru=>⟨v,H1,I2,ru,q⟩
theorem ps_fld(ha:PE X o ta)(hv:PE X value tv)(hs:swapsWith value (some (.Attribute o f pos')) pos.line X.env=pure false):PS X (.Assign [.Attribute o f pos'] value pos) (sFld X.K ta tv f):=by
 intro pins s σ H D I h
 refine plainObj_wpAny_Assign_Attribute (thn (hv pins s σ H _ I h) fun u s1 ⟨y,H1,I1,ry,q⟩=>thn (ha pins s1 σ H1 _ I1 q) fun ov s2 ⟨x,H2,I2,rx,a,C,dx,fs,ex,ea,c,n,l,q2⟩=>?_) hs
 subst ex
 obtain rfl:ov=Value.ref a:=rx
 exact setattr_ok I2 ea c n l ry fun s3 I3=>⟨σ,_,I3,q2⟩
end
section
variable{X:Cx}{pins:List (Addr×Obj)}{σ:St}{H:Hp}{s:Shared}{A:Around}{E:Value->Shared->Prop}{Q:Value->Shared->Prop}{c:Value}{b:Bool}
inductive TyOf (K:PySem.W.Frag) (H:Hp):V->Value->Prop where
 |non:TyOf K H .non (.type "NoneType")
 |bl (x:Bool):TyOf K H (.bl x) (.type "bool")
 |int (i:Int):TyOf K H (.int i) (.type "int")
 |str (x:Str):TyOf K H (.str x) (.type "str")
 |flt (x:UInt64):TyOf K H (.flt x) (.type "float")
 |lst {a:Addr}{xs:List V} (e:H a=some (.lst xs)):TyOf K H (.ref a) (.type "list")
 |frz {a:Addr}{o:Obj}{xs:List V} (e:H a=some (.frz o (.lst xs))):TyOf K H (.ref a) (.type "list")
 |tup {a:Addr}{xs:List V} (e:H a=some (.tup xs)):TyOf K H (.ref a) (.type "tuple")
 |dK {a:Addr}{kvs:List (Key×V)} (e:H a=some (.dK kvs)):TyOf K H (.ref a) (.type "dict")
 |dT {a:Addr}{kvs:List (List Key×V)} (e:H a=some (.dT kvs)):TyOf K H (.ref a) (.type "dict")
 |ins {a C dx:Addr}{fs:List (Str×V)} (e:H a=some (.ins C dx fs)) (cl:Cls K C) (ha:PySem.W.findIn K (.ref C) "__class__"=some (some (.builtin "object.__class__")))
   (hn:PySem.W.specialIn K (.builtin "object.__class__") "__get__"=some (some (.builtin "getset_descriptor.__get__"))) (htk:PySem.W.takesIn K (.builtin "object.__class__")=some true)
   (hm:PySem.W.mroIn K C (.type "object")=some true):TyOf K H (.ref a) (.ref C)
theorem isinst_ok {x:V}{u t:Value} (I:Inv X pins σ H s) (rx:RelV x u) (ty:TyOf X.K H x t) (e:PySem.W.kitOne X.K t c=some b) (h:∀ tk,Q (.bool b) { s with toks:=tk }) :
  wpAny (model X.prog X.w) A (call (.builtin "isinstance") [u,c]) Q E s:=by
 cases ty with
 |non=>cases (show u=Value.none from rx);exact PySem.W.kia_one PySem.W.kitx_none I.kIn True.intro e (fun z=>nomatch z) h
 |bl y=>cases (show u=Value.bool y from rx);exact PySem.W.kia_one PySem.W.kitx_bool I.kIn True.intro e (fun z=>nomatch z) h
 |int i=>obtain⟨t,q⟩:=(show ∃t,u=Value.int i t from rx);cases q;exact PySem.W.kia_one PySem.W.kitx_int I.kIn True.intro e (fun z=>nomatch z) h
 |str y=>obtain⟨t,q⟩:=(show ∃t,u=Value.str y t from rx);cases q;exact PySem.W.kia_one PySem.W.kitx_str I.kIn True.intro e (fun z=>nomatch z) h
 |flt y=>obtain⟨t,q⟩:=(show ∃t,u=Value.float y t from rx);cases q;exact PySem.W.kia_one PySem.W.kitx_float I.kIn True.intro e (fun z=>nomatch z) h
 | @lst a xs ea=>
   cases (show u=Value.ref a from rx)
   obtain⟨_,_,n,_,h1⟩:=(show ObjOk X.prog X.w H s.heap a (.lst xs) from I.hok a _ ea)
   exact PySem.W.kia_one PySem.W.kitx_list I.kIn ⟨_,h1,rfl⟩ e (fun z=>nomatch z) h
 | @frz a ob xs ea=>
   cases (show u=Value.ref a from rx)
   obtain⟨_,_,_,n,_,h1⟩:=(show ObjOk X.prog X.w H s.heap a (.frz ob (.lst xs)) from I.hok a _ ea)
   exact PySem.W.kia_one PySem.W.kitx_list I.kIn ⟨_,h1,rfl⟩ e (fun z=>nomatch z) h
 | @tup a xs ea=>
   cases (show u=Value.ref a from rx)
   obtain⟨_,_,_,p⟩:=(show ObjOk X.prog X.w H s.heap a (.tup xs) from I.hok a _ ea)
   obtain⟨o,h1,h2,_⟩:=p
   exact PySem.W.kia_one PySem.W.kitx_tuple I.kIn ⟨o,h1,h2⟩ e (fun z=>nomatch z) h
 | @dK a kvs ea=>
   cases (show u=Value.ref a from rx)
   obtain⟨_,_,vs,_,p⟩:=(show ObjOk X.prog X.w H s.heap a (.dK kvs) from I.hok a _ ea)
   obtain⟨o,es,ep,h1,h2,_⟩:=p
   exact PySem.W.kia_one PySem.W.kitx_dict I.kIn ⟨o,h1,h2.1⟩ e (fun z=>nomatch z) h
 | @dT a kvs ea=>
   cases (show u=Value.ref a from rx)
   obtain⟨_,_,xs,_,o,es,ep,h1,h2,_⟩:=(show ObjOk X.prog X.w H s.heap a (.dT kvs) from I.hok a _ ea)
   exact PySem.W.kia_one PySem.W.kitx_dict I.kIn ⟨o,h1,h2.1⟩ e (fun z=>nomatch z) h
 | @ins a C dx fs ea cl ha hn htk hm=>
   cases (show u=Value.ref a from rx)
   obtain⟨mA,O,_⟩:=ins_get I.hok ea
   obtain⟨od,J,_⟩:=O.look
   exact PySem.W.kia_one (PySem.W.kitx_own (cl.get _) cl.hd ha hn htk hm) I.kIn J e (fun z=>nomatch z) h
end
open PySem PySem.Spec PyProof.Rows
structure Room(k:Nat)(A:Around):Prop where
 hd:A.handled=none
 dp:A.depth+3*k+5<recursionLimit
 un:A.units+16*k+200<cLine
 gd:A.guards=some []
theorem Room.mono{j k:Nat}{A:Around}(r:Room k A)(h:j≤k):Room j A:=⟨r.hd,by have:=r.dp;omega,by have:=r.un;omega,r.gd⟩
theorem Room.deeper{k:Nat}{A:Around}(r:Room (k+1) A)(env:Env):Room k (A.deeper env):=
 ⟨r.hd,by have:=r.dp;show A.depth+1+3*k+5<_;omega,by have:=r.un;show A.units+3+16*k+200<_;omega,r.gd⟩
theorem Room.in1{k:Nat}{A:Around}(r:Room (k+1) A):Room k A.in1:=
 ⟨r.hd,by have:=r.dp;show A.depth+3*k+5<_;omega,by have:=r.un;show A.units+1+16*k+200<_;omega,r.gd⟩
theorem make_depth{A:Around}{C:Addr}{us:List Value}{kw:List (Str×Value)}:(A.under (.builtin "type.__call__" ⟨.ref C::us,kw⟩)).depth=A.depth+1:=by
 first | rfl | simp[Around.under,Code.weight,Code.isCreation,Code.isGuard,Code.isCaller,Code.frames,Code.isFrame,guardIds]
theorem make_units{A:Around}{C:Addr}{us:List Value}{kw:List (Str×Value)}:(A.under (.builtin "type.__call__" ⟨.ref C::us,kw⟩)).units=A.units+1:=by
 first | rfl | simp[Around.under,Code.cUnits,Code.frames,Code.isFrame]
theorem rO{A:Around}{C:Addr}{us:List Value}{kw:List (Str×Value)}:(A.under (.builtin "type.__call__" ⟨.ref C::us,kw⟩)).guards=A.guards:=by
 simp[Around.under,Code.guards,Code.isGuard,guardIds,pushGuards]
theorem Room.make{k:Nat}{A:Around}(r:Room (k+1) A)(C:Addr)(us:List Value)(kw:List (Str×Value)):Room k (A.under (.builtin "type.__call__" ⟨.ref C::us,kw⟩)):=
 ⟨r.hd,by have:=r.dp;rw[make_depth];omega,by have:=r.un;rw[make_units];omega,by first | (rw[rO];exact r.gd) | exact r.gd⟩
theorem Room.depth{k:Nat}{A:Around}(r:Room k A):A.depth<recursionLimit:=by have:=r.dp;omega
theorem Room.units{k:Nat}{A:Around}(r:Room k A):A.units+64<cLine:=by have:=r.un;omega
def tNil:TA:=fun _ H Q=>Q [] H
def tCons(ta:TE)(tr:TA):TA:=fun σ H Q=>ta σ H fun x H1=>tr σ H1 fun xs H2=>Q (x::xs) H2
section
variable{X:Cx}{e:Expr}{es:List Expr}{te:TE}{t:TA}{pos:Pos}
theorem pa_nil:PA X [] tNil:=fun _ _ _ _ H Q I h=>Calls.spliced_nil ⟨[],H,I,.nil,h⟩
theorem pa_cons(ha:PE X e te)(hr:PA X es t)(hs:starEach (e::es) X.env=(false,eval e X.env)::starEach es X.env:=by rfl):PA X (e::es) (tCons te t):=by
 intro pos pins s σ H Q I h
 rw[hs]
 show wpAny _ _ (spliced ((false,eval e X.env)::backTo pos (starEach es X.env))) _ _ s
 refine Calls.spliced_cons (thn (ha pins s σ H _ I h) fun u s1 ⟨x,H1,I1,r1,q1⟩=>?_)
 exact thn (hr pos pins s1 σ H1 _ I1 q1) fun us s2 ⟨xs,H2,I2,r2,q2⟩=>⟨x::xs,H2,I2,.cons r1 r2,q2⟩
def tTup(t:TA):TE:=fun σ H Q=>t σ H fun xs H1=>xs.length≤sizeLine∧∀p,H1 p=none->Q (.ref p) (upd H1 p (.tup xs))
def tLst(t:TA):TE:=fun σ H Q=>t σ H fun xs H1=>xs.length≤sizeLine∧∀p,H1 p=none->Q (.ref p) (upd H1 p (.lst xs))
theorem pe_tup{x1}(h:PA X es t):PE X (.Tuple es x1 pos) (tTup t):=by
 intro pins s σ H Q I hq
 refine wpAny_Tuple_spliced (thn (h pos pins s σ H _ I hq) fun us s1 ⟨xs,H1,I1,r,z,q⟩=>⟨by rw[←r.length];exact z,?_⟩)
 have hf:H1 s1.heap.objs.size=none:=I1.hok.fresh (Nat.le_refl _)
 refine⟨.ref s1.heap.objs.size,upd H1 s1.heap.objs.size (.tup xs),I1.laid (t':=s1.toks) (fun b u e=>Heap.get?_push_of_some _ e) (Nat.le_refl _) ?_,rfl,q _ hf⟩
 exact⟨z,us,r,⟨_,Heap.get?_push_size _ rfl,rfl,_,rfl⟩⟩
theorem pe_lst(h:PA X es t):PE X (.List es pos) (tLst t):=by
 intro pins s σ H Q I hq
 refine wpAny_List_spliced (thn (h pos pins s σ H _ I hq) fun us s1 ⟨xs,H1,I1,r,z,q⟩=>⟨by rw[←r.length];exact z,?_⟩)
 have hf:H1 s1.heap.objs.size=none:=I1.hok.fresh (Nat.le_refl _)
 refine⟨.ref s1.heap.objs.size,upd H1 s1.heap.objs.size (.lst xs),I1.laid (t':=s1.toks) (fun b u e=>Heap.get?_push_of_some _ e) (Nat.le_refl _) ?_,rfl,q _ hf⟩
 exact⟨z,us,0,r,Heap.get?_push_size _ rfl⟩
end
abbrev Sp:=List V->Hp->VK->XK->Prop
abbrev CXT:=List Env->Hp->Shared->XK->Value->Shared->Prop
structure Env0(P:Program)(w:World)(K:PySem.W.Frag)(mg:Str->Option Value)(base:Heap)(A:Around)(outer:List Env)(s:Shared)(H:Hp):Prop where
 frames:A.frames=some outer
 mod:Mod K mg base
 bs:∀b o,base.get? b=some o->s.heap.get? b=some o∧H b=none
 bsz:base.objs.size≤s.heap.objs.size
 funs:s.heap.FunFrames base outer
 frf:∀b∈frs outer,H b=none
 hok:HOk P w H s.heap
 bare:AllBare s.gens
def CE(outer:List Env)(P:Program)(w:World)(H:Hp)(s:Shared)(Q:VK)(u:Value)(s':Shared):Prop:=
 ∃v H',s'.os=s.os∧AllBare s'.gens∧Un (frs outer) [] H H' s.heap s'.heap∧HOk P w H' s'.heap∧RelV v u∧Q v H'
def CR(CX:CXT)(outer:List Env)(P:Program)(w:World)(H:Hp)(s:Shared)(Q:VK)(E:XK)(r:Result)(s':Shared):Prop:=
 match r with
 |.ok (.ret u)=>CE outer P w H s Q u s'
 |.ok _=>False
 |.error e=>CX outer H s E e s'
structure FnOk(P:Program)(w:World)(K:PySem.W.Frag)(mg:Str->Option Value)(base:Heap)(CX:CXT)(k:Nat)(f:Addr)(fd:FuncData)(ps:List Str)(sp:Sp):Prop where
 len:∀vs H Q E,sp vs H Q E->vs.length=ps.length
 run:∀(A:Around) (outer:List Env) (s:Shared) (H:Hp) (args:Args) (us:List Value) (vs:List V) (Q:VK) (E:XK),Room k A->Env0 P w K mg base A outer s H->BindsTo s fd args (ps.zip us)->Vals vs us->sp vs H Q E->
  codeAny (model P w) A (.call (.ref f) args) (CR CX outer P w H s Q E) s
theorem FnOk.mono{P:Program}{w:World}{K:PySem.W.Frag}{mg:Str->Option Value}{base:Heap}{CX:CXT}{j k:Nat}{f:Addr}{fd:FuncData}{ps:List Str}{sp:Sp}(F:FnOk P w K mg base CX j f fd ps sp)(h:j≤k) :
  FnOk P w K mg base CX k f fd ps sp:=⟨F.len,fun A outer s H args us vs Q E hr=>F.run A outer s H args us vs Q E (hr.mono h)⟩
theorem FnOk.imp{P:Program}{w:World}{K:PySem.W.Frag}{mg:Str->Option Value}{base:Heap}{CX:CXT}{k:Nat}{f:Addr}{fd:FuncData}{ps:List Str}{sp sp':Sp}(F:FnOk P w K mg base CX k f fd ps sp)
  (h:∀vs H Q E,sp' vs H Q E->sp vs H Q E):FnOk P w K mg base CX k f fd ps sp':=
 ⟨fun vs H Q E q=>F.len vs H Q E (h _ _ _ _ q),fun A outer s H args us vs Q E hr he hb hv hs=>F.run A outer s H args us vs Q E hr he hb hv (h _ _ _ _ hs)⟩
theorem Env0.make{P:Program}{w:World}{K:PySem.W.Frag}{mg:Str->Option Value}{base:Heap}{A:Around}{outer:List Env}{s:Shared}{H:Hp}(e:Env0 P w K mg base A outer s H)(C:Addr)(us:List Value)(kw:List (Str×Value)) :
  Env0 P w K mg base (A.under (.builtin "type.__call__" ⟨.ref C::us,kw⟩)) outer s H:=⟨by first | exact e.frames | (simpa[Around.under,Code.envs,Code.isFrame,pushEnvs] using e.frames),e.mod,e.bs,e.bsz,e.funs,e.frf,e.hok,e.bare⟩
section
variable{X:Cx}{pins:List (Addr×Obj)}{σ:St}{H:Hp}{s s':Shared}
theorem Inv.env0(I:Inv X pins σ H s):Env0 X.prog X.w X.K X.mg X.base X.A X.stack s H:=
 ⟨I.ok.frames,I.ok.mod,I.bs,Nat.le_trans I.ok.bsz I.sz,I.stack,I.stkFree,I.hok,I.bare⟩
theorem Inv.after{Q:VK}{u:Value}(I:Inv X pins σ H s)(h:CE X.stack X.prog X.w H s Q u s'):EP X pins σ Q u s':=by
 obtain⟨v,H',os,bare,un,hok,r,q⟩:=h
 obtain⟨hh,g,d,t,os'⟩:=s'
 obtain rfl:os'=s.os:=os
 exact⟨v,H',I.call (h':=hh) (g':=g) (d':=d) (t':=t) (ch:=[]) un hok bare (fun b z=>absurd z (by simp)),r,q⟩
end
def tCall(sp:Sp)(dvs:List V)(E:XK)(t:TA):TE:=fun σ H Q=>t σ H fun vs H1=>sp (vs++dvs) H1 Q E
def tMake(C:Addr)(sp:Sp)(dvs:List V)(E:XK)(t:TA):TE:=fun σ H Q=>t σ H fun vs H1=>∀x dx,H1 x=none->H1 dx=none->dx≠x->
 sp (.ref x::(vs++dvs)) (upd (upd H1 dx (.own x)) x (.ins C dx [])) (fun v H2=>v=.non∧Q (.ref x) H2) E
def Binds(K:PySem.W.Frag)(fd:FuncData)(ps:List Str)(ds:List Value):Prop:=
 ∀(s:Shared) (us:List Value),K.In s.heap->(us++ds).length=ps.length->BindsTo s fd ⟨us,[]⟩ (ps.zip (us++ds))
theorem Binds.all{K:PySem.W.Frag}{fd:FuncData}{ps:List Str}(h:∀us:List Value,us.length=ps.length->bindArgs fd ⟨us,[]⟩=pure (ps.zip us)):Binds K fd ps []:=fun s us _ hl=>by
 rw[List.append_nil] at hl ⊢
 exact .of_eq (h us hl)
def Passes(CX:CXT)(X:Cx)(E:XK):Prop:=∀(pins:List (Addr×Obj)) (σ:St) (H:Hp) (s:Shared) (e:Value) (s':Shared),Inv X pins σ H s->CX X.stack H s E e s'->X.xe e s'
section
variable{X:Cx}{CX:CXT}{k:Nat}{f C:Addr}{fd:FuncData}{ps:List Str}{sp:Sp}{dvs:List V}{ds:List Value}{E:XK}{x m:Str}{p pos apos:Pos}{e o:Expr}{es:List Expr}{ta:TE}{t:TA}
theorem run_fn {pins:List (Addr×Obj)}{σ:St}{H:Hp}{s:Shared}{Q:VK}{us:List Value}{vs:List V} (F:FnOk X.prog X.w X.K X.mg X.base CX k f fd ps sp) (hr:Room k X.A) (hb:Binds X.K fd ps ds) (hd:Vals dvs ds) (hx:Passes CX X E)
  (I:Inv X pins σ H s) (r:Vals vs us) (h:sp (vs++dvs) H Q E):wpAny (model X.prog X.w) X.A (call (.ref f) us) (EP X pins σ Q) X.xe s:=by
 have r2:Vals (vs++dvs) (us++ds):=r.append hd
 have hl:(us++ds).length=ps.length:=by rw[←r2.length];exact F.len _ _ _ _ h
 refine wpAny_call (codeAny_mono (F.run X.A X.stack s H ⟨us,[]⟩ (us++ds) (vs++dvs) Q E hr I.env0 (hb s us I.kIn hl) r2 h) fun r s' hq=>?_)
 cases r with
 |error e=>exact hx pins σ H s e s' I hq
 |ok fl=>
   cases fl with
   |ret u=>exact I.after hq
   |next=>exact False.elim hq
   |brk=>exact False.elim hq
   |cont=>exact False.elim hq
theorem pe_call(F:FnOk X.prog X.w X.K X.mg X.base CX k f fd ps sp)(hr:Room k X.A)(hg:Gl X x)(hm:X.mg x=some (.ref f))(hk:PySem.W.keepIn X.K (.ref f)=true)(hb:Binds X.K fd ps ds)(hd:Vals dvs ds)(hx:Passes CX X E)
  (ha:PA X (e::es) t) (hdb:(x==("__debug__":Str))=false:=by decide) (he:starEach (e::es) X.env=(false,eval e X.env)::starEach es X.env:=by rfl) (hpl:(backTo pos (starEach es X.env)).any (·.1)=false:=by rfl) :
  PE X (.Call (.Name x p) (e::es) [] pos) (tCall sp dvs E t):=by
 intro pins s σ H Q I h
 refine wpAny_Call_Name_kw (ld_glob I hg hm ?_ hdb)
 refine PySem.W.callWith_K (h₀:=X.base) I.ok.mod.kin hk (thn (ha pos pins s σ H _ I h) fun us s1 ⟨vs,H1,I1,r,q⟩=>⟨I1.kIn,?_⟩) he hpl
 exact run_fn F hr hb hd hx I1 r q
structure Mk(K:PySem.W.Frag)(C f:Addr):Prop where
 makes:PySem.W.makesIn K C=true
 init:PySem.W.findIn K (.ref C) "__init__"=some (some (.ref f))
 fn:PySem.W.isFn K (.ref f)=true
 kp:PySem.W.keepIn K (.ref C)=true
theorem run_make {pins:List (Addr×Obj)}{σ:St}{H:Hp}{s:Shared}{Q:VK}{us:List Value}{vs:List V} (M:Mk X.K C f) (F:FnOk X.prog X.w X.K X.mg X.base CX k f fd ps sp) (hr:Room (k + 1) X.A) (hb:Binds X.K fd ps ds) (hd:Vals dvs ds)
  (hx:Passes CX X E) (I:Inv X pins σ H s) (r:Vals vs us)
  (h:∀x dx,H x=none->H dx=none->dx≠x->sp (.ref x::(vs++dvs)) (upd (upd H dx (.own x)) x (.ins C dx [])) (fun v H2=>v=.non∧Q (.ref x) H2) E) :
  wpAny (model X.prog X.w) X.A (call (.ref C) us) (EP X pins σ Q) X.xe s:=by
 have hq:=h (s.heap.objs.size+1) s.heap.objs.size (I.hok.fresh (Nat.le_succ _)) (I.hok.fresh (Nat.le_refl _)) (Nat.ne_of_lt (Nat.lt_succ_self _))
 have I2:=Inv.made (C:=C) I
 have r2:Vals (V.ref (s.heap.objs.size+1)::(vs++dvs)) (Value.ref (s.heap.objs.size+1)::(us++ds)):=.cons rfl (r.append hd)
 have hl:(Value.ref (s.heap.objs.size+1)::us++ds).length=ps.length:=by
  have e:=r2.length
  rw[F.len _ _ _ _ hq] at e
  exact e.symm
 refine wpAny_call (make_map (f:=f) I.kIn M.makes M.init (beq_iff_eq.mp M.fn) (codeAny_mono (F.run _ X.stack _ _ ⟨Value.ref (s.heap.objs.size+1)::us,[]⟩ (Value.ref (s.heap.objs.size+1)::(us++ds)) _ _ E (hr.make C us [])
  (I2.env0.make C us []) (hb _ (Value.ref (s.heap.objs.size+1)::us) I2.kIn hl) r2 hq) fun r s' hq'=>?_))
 cases r with
 |error e=>exact hx pins σ _ _ e s' I2 hq'
 | ok fl=>
   cases fl with
   |ret u=>
     obtain⟨v,H',I3,rv,ev,q3⟩:=I2.after hq'
     subst ev
     exact⟨rv,⟨V.ref (s.heap.objs.size+1),H',I3,rfl,q3⟩⟩
   |next=>exact False.elim hq'
   |brk=>exact False.elim hq'
   |cont=>exact False.elim hq'
theorem pe_make(M:Mk X.K C f)(F:FnOk X.prog X.w X.K X.mg X.base CX k f fd ps sp)(hr:Room (k+1) X.A)(hg:Gl X x)(hm:X.mg x=some (.ref C))(hb:Binds X.K fd ps ds)(hd:Vals dvs ds)(hx:Passes CX X E)
  (ha:PA X (e::es) t) (hdb:(x==("__debug__":Str))=false:=by decide) (he:starEach (e::es) X.env=(false,eval e X.env)::starEach es X.env:=by rfl) (hpl:(backTo pos (starEach es X.env)).any (·.1)=false:=by rfl) :
  PE X (.Call (.Name x p) (e::es) [] pos) (tMake C sp dvs E t):=by
 intro pins s σ H Q I h
 refine wpAny_Call_Name_kw (ld_glob I hg hm ?_ hdb)
 refine PySem.W.callWith_K (h₀:=X.base) I.ok.mod.kin M.kp (thn (ha pos pins s σ H _ I h) fun us s1 ⟨vs,H1,I1,r,q⟩=>⟨I1.kIn,?_⟩) he hpl
 exact run_make M F hr hb hd hx I1 r q
end
structure FnScope(N P:List Str)(sc:Scope):Prop where
 kind:sc.kind=.function
 co:sc.isCoroutine=false
 gen:sc.isGenerator=false
 nd:N.Nodup
 pre:N.take P.length=P
 par:∀x∈P,sc.names.lookup x=some .local∨sc.names.lookup x=some .cell
 nofree:∀y∈sc.names,y.2≠.free
theorem bindL_out {kindOf:Str->Option NameKind}{x:Str}:∀ {binds:List (Str×Value)}{m:Str->Option Value},(∀ v,(x,v)∉binds)->bindL kindOf binds m x=m x
 |[],_,_=>rfl
 | (n,v)::r,m,h=>by
   unfold bindL
   rw[bindL_out fun w hw=>h w (List.mem_cons_of_mem _ hw)]
   split
   ·have:x≠n:=by rintro rfl;exact h v List.mem_cons_self
    simp[this]
   ·rfl
theorem bindC_out {kindOf:Str->Option NameKind}{x:Str}:∀ {binds:List (Str×Value)}{m:Str->Option Value},(∀ v,(x,v)∉binds)->bindC kindOf binds m x=m x
 |[],_,_=>rfl
 | (n,v)::r,m,h=>by
   unfold bindC
   rw[bindC_out fun w hw=>h w (List.mem_cons_of_mem _ hw)]
   split
   ·rfl
   ·have:x≠n:=by rintro rfl;exact h v List.mem_cons_self
    simp[this]
theorem bindL_get {kindOf:Str->Option NameKind}{x:Str}{v:Value}:∀ {P:List Str}{vs:List Value}{i:Nat}{m:Str->Option Value},P.Nodup->P[i]?=some x->vs[i]?=some v->kindOf x=some .local->
  bindL kindOf (P.zip vs) m x=some v
 |[],_,_,_,_,h,_,_=>by simp at h
 |_::_,[],_,_,_,_,h,_=>by simp at h
 |p::P,w::vs,0,m,nd,h1,h2,hk=>by
   simp at h1 h2;subst h1;subst h2
   show bindL kindOf ((p,w)::P.zip vs) m p=_
   unfold bindL
   rw[bindL_out fun v hv=>(List.nodup_cons.mp nd).1 (List.of_mem_zip hv).1,if_pos hk]
   simp
 |p::P,w::vs,i+1,m,nd,h1,h2,hk=>by
   show bindL kindOf ((p,w)::P.zip vs) m x=_
   unfold bindL
   exact bindL_get (i:=i) (List.nodup_cons.mp nd).2 (by simpa using h1) (by simpa using h2) hk
theorem bindC_get {kindOf:Str->Option NameKind}{x:Str}{v:Value}:∀ {P:List Str}{vs:List Value}{i:Nat}{m:Str->Option Value},P.Nodup->P[i]?=some x->vs[i]?=some v->kindOf x≠some .local->
  bindC kindOf (P.zip vs) m x=some v
 |[],_,_,_,_,h,_,_=>by simp at h
 |_::_,[],_,_,_,_,h,_=>by simp at h
 |p::P,w::vs,0,m,nd,h1,h2,hk=>by
   simp at h1 h2;subst h1;subst h2
   show bindC kindOf ((p,w)::P.zip vs) m p=_
   unfold bindC
   rw[bindC_out fun v hv=>(List.nodup_cons.mp nd).1 (List.of_mem_zip hv).1,if_neg hk]
   simp
 |p::P,w::vs,i+1,m,nd,h1,h2,hk=>by
   show bindC kindOf ((p,w)::P.zip vs) m x=_
   unfold bindC
   exact bindC_get (i:=i) (List.nodup_cons.mp nd).2 (by simpa using h1) (by simpa using h2) hk
def start(N:List Str)(vs:List V):St:=vs.map some++List.replicate (N.length-vs.length) none
def cxOf(CX:CXT)(P:Program)(w:World)(K:PySem.W.Frag)(mg:Str->Option Value)(base:Heap)(N:List Str)(qual:Str)(scope:Scope)(f:Addr)(cd:Value)(A:Around)(outer:List Env)(s:Shared)(H:Hp)(E:XK):Cx where
 prog:=P
 w:=w
 K:=K
 mg:=mg
 base:=base
 A:=A.deeper (envOfC qual scope s.heap.objs.size f cd)
 N:=N
 s₀:=s
 H₀:=H
 env:=envOfC qual scope s.heap.objs.size f cd
 outer:=outer
 stack:=envOfC qual scope s.heap.objs.size f cd::outer
 ex:=[]
 calm:=true
 fn:=fun _=>true
 pn:=[]
 xe:=fun e s'=>wpAny (model P w) (A.deeper (envOfC qual scope s.heap.objs.size f cd)) (leaving (envOfC qual scope s.heap.objs.size f cd) e) (fun _ s''=>CX outer H s E e s'') (fun e' s''=>CX outer H s E e' s'') s'
theorem cell_has{sc:Scope}{n:Nat}{x:Str}(h:sc.names.lookup x=some .cell):∃c,(cellsFrom n sc.names []).lookup x=some c:=by
 have q:=PySem.W.cellsFrom_some sc.names n [] (.inl h)
 exact Option.isSome_iff_exists.mp q
theorem inv_start {CX:CXT}{P:Program}{w:World}{K:PySem.W.Frag}{mg:Str->Option Value}{base:Heap}{N ps:List Str}{qual:Str}{scope:Scope}{f:Addr}{cd:Value}{A:Around}{outer:List Env}{s s1:Shared}{H:Hp}{E:XK}{us:List Value}{vs:List V}
  (S:FnScope N ps scope) (hd:A.handled=none) (e0:Env0 P w K mg base A outer s H) (hl:vs.length=ps.length) (r:Vals vs us)
  (x:InCallC s s.heap.objs.size (bindL (envOfC qual scope s.heap.objs.size f cd).kindOf (ps.zip us) fun _=>none) (cellsFrom (s.heap.objs.size+1) scope.names []) (bindC (envOfC qual scope s.heap.objs.size f cd).kindOf (ps.zip us) fun _=>none) s1) :
  Inv (cxOf CX P w K mg base N qual scope f cd A outer s H E) [] (start N vs) H s1:=by
 have hpl:ps.length≤N.length:=by have:=congrArg List.length S.pre;rw[List.length_take] at this;omega
 obtain⟨h1,tk,rfl,hk⟩:=x.done
 have noA:∀b:Addr,b∉(cxOf CX P w K mg base N qual scope f cd A outer s H E).ex:=fun b z=>absurd (show b∈([]:List Addr) from z) (by simp)
 refine⟨⟨e0.mod,S.kind,rfl,rfl,Nat.le_refl _,fun y z c h1 h2=>?_,fun y hy=>?_,fun y c _ h=>?_,fun _=>hd,Around.frames_deeper e0.frames,.inr ⟨rfl,rfl⟩,fun b z=>absurd z (noA b),e0.bs,e0.bsz,fun b _ _=>noA b,fun b z=>absurd z (noA b),e0.funs,e0.frf⟩,
  rfl,e0.bare,Un.kept hk,⟨_,x.toInCall.ns,fun i y v h1 h2 h3=>?_⟩,fun y c h=>⟨_,x.cell y c h⟩,e0.hok.fresh (Nat.le_refl _),fun y c h=>?_,fun p hp=>absurd (show p∈([]:List (Addr×Obj)) from hp) (by simp),e0.hok.kept hk,?_⟩
 ·exact name_of_addr x.apart (PySem.mem_of_lookup h1) (PySem.mem_of_lookup h2)
 ·have hy:scope.names.lookup y=some .cell∨scope.names.lookup y=some .free:=hy
  rcases hy with hy | hy
  ·exact cell_has hy
  ·exact absurd rfl (S.nofree _ (PySem.mem_of_lookup hy))
 ·exact Nat.le_of_lt (x.above y c (PySem.mem_of_lookup h))
 ·have hi:i<vs.length:=by
   unfold start at h2
   by_cases hi:i<vs.length
   ·exact hi
   ·rw[List.getElem?_append_right (by simpa using hi)] at h2
    rw[List.getElem?_replicate] at h2
    split at h2<;>cases h2
  have ha:vs[i]?=some v:=by
   unfold start at h2
   rw[List.getElem?_append_left (by simpa using hi),List.getElem?_map] at h2
   cases e:vs[i]? with
   |none=>rw[e] at h2;cases h2
   |some a=>rw[e] at h2;cases h2;rfl
  obtain⟨u,hu,rv⟩:=r.get ha
  have hp:ps[i]?=some y:=by
   rw[←S.pre,List.getElem?_take_of_lt (by omega)];exact h1
  have ndP:ps.Nodup:=by rw[←S.pre];exact S.nd.sublist (List.take_sublist _ _)
  refine⟨u,rv,?_⟩
  rcases S.par y (List.mem_of_getElem? hp) with k | k
  ·exact .inl ⟨k,bindL_get ndP hp hu k⟩
  ·obtain⟨c,e⟩:=cell_has (n:=s.heap.objs.size+1) k
   refine .inr ⟨.inl k,c,e,?_⟩
   have q:=x.cell y c e
   rw[bindC_get ndP hp hu (by show scope.names.lookup y≠_;rw[k];decide)] at q
   exact q
 ·exact e0.hok.fresh (Nat.le_of_lt (x.above y c (PySem.mem_of_lookup h)))
 ·unfold start
  show _=N.length
  rw[List.length_append,List.length_map,List.length_replicate]
  omega
theorem fn_of {CX:CXT}{P:Program}{w:World}{K:PySem.W.Frag}{mg:Str->Option Value}{base:Heap}{k:Nat}{f:Addr}{name qual:Str}{params:Arguments}{body:List Stmt}{scope:Scope}{dV kV doc pm cdv ct oc:Value}{an od:Option Addr}
  {osl:Array (Option Value)}{N ps:List Str}{sp:Sp} (lk:K.lookup f=some ⟨oc,od,.func (PySem.W.fnOf name qual params body scope dV kV doc pm an cdv ct),osl⟩) (hcd:PySem.W.codeIn K cdv qual=true) (S:FnScope N ps scope)
  (len:∀vs H Q E,sp vs H Q E->vs.length=ps.length)
  (hbody:∀(A:Around) (outer:List Env) (s:Shared) (H:Hp) (vs:List V) (Q:VK) (E:XK),Room k (A.deeper (envOfC qual scope s.heap.objs.size f cdv))->sp vs H Q E->
    ∃t,PSs (cxOf CX P w K mg base N qual scope f cdv A outer s H E) body t∧t { nx:=fun _ H'=>Q .non H',rt:=Q } (start N vs) H) :
  FnOk P w K mg base CX (k+1) f (PySem.W.fnOf name qual params body scope dV kV doc pm an cdv ct) ps sp:=by
 refine⟨len,fun A outer s H args us vs Q E hr e0 hb r hsp=>?_⟩
 have hl:=len _ _ _ _ hsp
 have KX:K.In s.heap:=e0.mod.kin.keeps fun b o e=>(e0.bs b o e).1
 have lim:s.heap.NoLimit:=e0.mod.nolimit.keeps fun b o e=>(e0.bs b o e).1
 have hkind:∀y∈ps.zip us,scope.names.lookup y.1=some .local∨(scope.names.lookup y.1=some .cell∧((cellsFrom (s.heap.objs.size+1) scope.names []).lookup y.1).isSome=true):=fun⟨n,v⟩ hy=>by
  rcases S.par n (List.of_mem_zip hy).1 with q | q
  ·exact .inl q
  ·exact .inr ⟨q,PySem.W.cellsFrom_some _ _ _ (.inl q)⟩
 refine codeAny_call_function hr.depth (KX _ _ lk) rfl S.co S.gen rfl (PySem.W.codeRec_of KX hcd) (hb _ _ _ _ ?_)
 refine wpAny_newFunctionEnv_cells S.kind hkind fun env he s1 x=>?_
 subst he
 refine⟨lim.keeps x.toInCall.keep,codeAny_func ?_⟩
 obtain⟨t,ht,hq⟩:=hbody A outer s H vs Q E (hr.deeper _) hsp
 have I:Inv (cxOf CX P w K mg base N qual scope f cdv A outer s H E) [] (start N vs) H s1:=inv_start S hr.hd e0 hl r x
 refine wpAny_mono (ht [] s1 (start N vs) H _ I hq) (fun fl s' hs=>?_) fun e s' hs=>hs
 have fin:∀{σ':St}{H':Hp}{v:V}{u:Value},Inv (cxOf CX P w K mg base N qual scope f cdv A outer s H E) [] σ' H' s'->RelV v u->Q v H'->CE outer P w H s Q u s':=
  fun {σ' H' v u} J rv q=>⟨v,H',J.os,J.bare,J.base,J.hok,rv,q⟩
 cases fl with
 |ret u=>
   obtain⟨v,σ',H',J,rv,q⟩:=hs
   exact fin J rv q
 |next=>
   obtain⟨σ',H',J,q⟩:=hs
   exact fin (v:=V.non) (u:=Value.none) J rfl q
 |brk=>
   obtain⟨_,_,_,q⟩:=hs
   exact False.elim q
 |cont=>
   obtain⟨_,_,_,q⟩:=hs
   exact False.elim q
open PySem PySem.Spec PyProof.Rows
section
variable{X:Cx}{x:Str}{p pos:Pos}{e:Expr}{es:List Expr}{t:TA}{id T:String}{r:List V->Hp->VK->Prop}
def tCB(r:List V->Hp->VK->Prop)(t:TA):TE:=fun σ H Q=>t σ H fun vs H1=>r vs H1 Q
theorem pe_callB(hc:CallR X (.builtin id) r)(hg:Gl X x)(hm:X.mg x=none)(hv:bootBuiltins x=some (.builtin id))(ha:PA X (e::es) t)(hn:x≠"__name__":=by decide)(hdb:(x==("__debug__":Str))=false:=by decide)
  (he:starEach (e::es) X.env=(false,eval e X.env)::starEach es X.env:=by rfl) (hpl:(backTo pos (starEach es X.env)).any (·.1)=false:=by rfl):PE X (.Call (.Name x p) (e::es) [] pos) (tCB r t):=by
 intro pins s σ H Q I h
 refine wpAny_Call_Name_kw (ld_blt I hg hm hv ?_ hn hdb)
 exact PyProof.Rows.callWith_builtin1 (thn (ha pos pins s σ H _ I h) fun us s1 ⟨vs,H1,I1,r1,q1⟩=>hc pins s1 σ H1 vs us Q I1 r1 q1) he hpl
theorem pe_callTy(hc:CallR X (.type T) r)(hg:Gl X x)(hm:X.mg x=none)(hv:bootBuiltins x=some (.type T))(ha:PA X (e::es) t)(hn:x≠"__name__":=by decide)(hdb:(x==("__debug__":Str))=false:=by decide)
  (he:starEach (e::es) X.env=(false,eval e X.env)::starEach es X.env:=by rfl) (hpl:(backTo pos (starEach es X.env)).any (·.1)=false:=by rfl):PE X (.Call (.Name x p) (e::es) [] pos) (tCB r t):=by
 intro pins s σ H Q I h
 refine wpAny_Call_Name_kw (ld_blt I hg hm hv ?_ hn hdb)
 exact PyProof.Rows.callWith_type1 (thn (ha pos pins s σ H _ I h) fun us s1 ⟨vs,H1,I1,r1,q1⟩=>hc pins s1 σ H1 vs us Q I1 r1 q1) he hpl
end
end L2
namespace HT
open PySem PyProof.Rows
section
open PySem.SeqAt
open PySem.AutoSeq1 (wpAny_loadPart')
open PySem.MeetsSeq PySem.MeetsSeq2 PySem.MeetsSeq3
end
section
variable{prog:Program}{w:World}{A:Around}{E:Value->Shared->Prop}{s:Shared}
theorem cat_tup {t b:Addr}{vs ws:List Value}{Q:Value->Shared->Prop} (ht:IsTup s.heap t vs.toArray) (hb:IsTup s.heap b ws.toArray) (hv:vs≠[])
  (h1:ws=[]->Q (.ref t) s) (h2:ws≠[]->Q (.ref s.heap.objs.size) { s with heap:=s.heap.push { cls:=.type "tuple",data:=.seq (vs++ws).toArray } })
  (hsz:vs.length+ws.length≤sizeLine):wpAny (model prog w) A (binaryOp .Add (.ref t) (.ref b)) Q E s:=by
 obtain⟨⟨cls,dd,data,sl⟩,ho,hc,n,hd⟩:=id ht
 obtain⟨⟨cls2,dd2,data2,sl2⟩,ho2,hc2,n2,hd2⟩:=id hb
 simp only at hc hd hc2 hd2
 subst hc hd hc2 hd2
 have e:vs.toArray++ws.toArray=(vs++ws).toArray:=by simp
 by_cases hw:ws=[]
 ·exact concat_meets ⟨_,ho,rfl⟩ ⟨_,ho2,rfl⟩ noFill_tuple_add seq_tuple_add PySem.F.slot_tuple_add PySem.F.entry_tuple_add (PySem.F.args_tuple_add_2 _ _)
   (tuple_addW1 t b vs.toArray ws.toArray n n2 dd dd2 sl sl2 (by simpa using hv) (by simp[hw])) ⟨ho,ho2,h1 hw⟩
 ·refine concat_meets ⟨_,ho,rfl⟩ ⟨_,ho2,rfl⟩ noFill_tuple_add seq_tuple_add PySem.F.slot_tuple_add PySem.F.entry_tuple_add (PySem.F.args_tuple_add_2 _ _)
   (tuple_addW2 t b vs.toArray ws.toArray n n2 dd dd2 sl sl2 (by simpa using hv) (by simpa using hw) (by rw[List.size_toArray,List.size_toArray];exact hsz)) ⟨ho,ho2,?_⟩
  rw[e]
  exact h2 hw
def sIx(n d:Nat):Option Int->Nat
 |none=>d
 |some v=>if v<0 then (v+(n:Int)).toNat else min v.toNat n
theorem sIx_none(n d:Nat):sIx n d none=d:=rfl
theorem sIx_nat(n d k:Nat):sIx n d (some (k:Int))=min k n:=by
 show (if (k:Int)<0 then ((k:Int)+(n:Int)).toNat else min (k:Int).toNat n)=min k n
 rw[if_neg (by omega),Int.toNat_natCast]
theorem sIx_le (n d:Nat) (hd:d≤n) (o:Option Int):sIx n d o≤n:=by
 cases o with
 |none=>exact hd
 |some v=>
   show (if v<0 then (v+(n:Int)).toNat else min v.toNat n)≤n
   by_cases hv:v<0
   ·rw[if_pos hv];omega
   ·rw[if_neg hv];exact Nat.min_le_right _ _
theorem clip_eq(v:Int)(n d:Nat):(if v<0 then max (v+(n:Int)) 0 else min v (n:Int))=((sIx n d (some v):Nat):Int):=by
 show (if v<0 then max (v+(n:Int)) 0 else min v (n:Int))=(((if v<0 then (v+(n:Int)).toNat else min v.toNat n):Nat):Int)
 by_cases hv:v<0
 ·simp only[if_pos hv];omega
 ·simp only[if_neg hv];omega
theorem adjust_gen(lo hi:Option Int)(n:Nat):Builtin.Slice.sliceAdjust lo hi 1 (n:Int)=(((sIx n 0 lo:Nat):Int),((sIx n n hi:Nat):Int)):=by
 have h1:¬ ((1:Int)<0):=by omega
 unfold Builtin.Slice.sliceAdjust
 simp only[h1,if_false]
 refine Prod.ext ?_ ?_
 ·cases lo with
  |none=>rfl
  |some v=>exact clip_eq v n 0
 ·cases hi with
  |none=>rfl
  |some v=>exact clip_eq v n n
theorem places_gen(i j:Nat):Builtin.Slice.slicePlaces (i:Int) (j:Int) 1=j-i:=by
 unfold Builtin.Slice.slicePlaces
 have h1:(1:Int) > 0:=by omega
 simp only[h1,if_true,Int.ediv_one]
 split<;>omega
theorem slicePart_{v:Value}{o:Option Int}{Q:Option Int->Shared->Prop}(p:IsPart v o)(h:Q o s):wpAny (model prog w) A (Builtin.Slice.slicePartIndex v) Q E s:=by
 cases p with
 |none=>exact slicePart_none h
 |int i t=>exact slicePart_int h
theorem sliceApplied_gen{sl:Addr}{vl vu:Value}{lo hi:Option Int}{n:Nat}{Q:Int×Int×Nat->Shared->Prop}(hs:s.heap.IsSliceOf sl vl vu .none)(pl:IsPart vl lo)(pu:IsPart vu hi)
  (h:Q (((sIx n 0 lo:Nat):Int),1,sIx n n hi-sIx n 0 lo) s):wpAny (model prog w) A (Builtin.Slice.sliceApplied (.ref sl) (pure (n:Int))) Q E s:=by
 obtain⟨os,hos,hcs,hds⟩:=id hs
 unfold Builtin.Slice.sliceApplied Builtin.Slice.sliceFields
 refine wpAny_bind (wpAny_bind (wpAny_field hos hds (x:=vl) rfl (wpAny_bind (wpAny_field hos hds (x:=vu) rfl (wpAny_bind (wpAny_field hos hds (x:=.none) rfl (wpAny_pure ?_)))))))
 refine wpAny_bind (slicePart_none ?_)
 show wpAny _ _ (if ((1:Int)==0)=true then _ else _) _ _ s
 rw[if_neg (by decide)]
 refine wpAny_bind (slicePart_ pl (wpAny_bind (slicePart_ pu (wpAny_bind (wpAny_pure ?_)))))
 show wpAny _ _ (match Builtin.Slice.sliceAdjust lo hi 1 (n:Int) with | (lo,hi)=>pure (lo,(1:Int),Builtin.Slice.slicePlaces lo hi 1)) _ _ s
 rw[adjust_gen lo hi n]
 show wpAny _ _ (pure (((sIx n 0 lo:Nat):Int),(1:Int),Builtin.Slice.slicePlaces ((sIx n 0 lo:Nat):Int) ((sIx n n hi:Nat):Int) 1)) _ _ s
 rw[places_gen]
 exact wpAny_pure h
theorem pick_gen(xs:Array Value)(i k:Nat):((List.range k).filterMap fun (m:Nat)=>xs[((i:Int)+(m:Int)*1).toNat]?).toArray=((xs.toList.drop i).take k).toArray:=by
 have e:(fun (m:Nat)=>xs[((i:Int)+(m:Int)*1).toNat]?)=fun m=>xs[i+m]?:=by
  funext m
  have:((i:Int)+(m:Int)*1).toNat=i+m:=by omega
  rw[this]
 rw[e]
 have:=pick_run xs i k
 rw[List.filterMap_map] at this
 have e2:((fun x=>xs[x]?) ∘ fun x=>i+x)=fun m=>xs[i+m]?:=rfl
 rw[e2] at this
 rw[this]
theorem getItem_tuple_cut{t sl:Addr}{items:Array Value}{vl vu:Value}{lo hi:Option Int}{Q:Value->Shared->Prop}(ht:IsTup s.heap t items)(hs:s.heap.IsSliceOf sl vl vu .none)(pl:IsPart vl lo)(pu:IsPart vu hi)
  (hw:¬ (sIx items.size 0 lo=0∧sIx items.size items.size hi=items.size))
  (h:Q (.ref s.heap.objs.size) { s with heap:=s.heap.push { cls:=.type "tuple",data:=.seq ((items.toList.drop (sIx items.size 0 lo)).take (sIx items.size items.size hi-sIx items.size 0 lo)).toArray } })
  (hsz:items.size≤sizeLine):wpAny (model prog w) A (getItem (.ref t) (.ref sl)) Q E s:=by
 have htake:sizeOk (.seq ((items.toList.drop (sIx items.size 0 lo)).take (sIx items.size items.size hi-sIx items.size 0 lo)).toArray):=by
  show ((items.toList.drop (sIx items.size 0 lo)).take (sIx items.size items.size hi-sIx items.size 0 lo)).toArray.size≤sizeLine
  rw[List.size_toArray,List.length_take,List.length_drop,Array.length_toList]
  omega
 have hj:sIx items.size items.size hi≤items.size:=sIx_le _ _ (Nat.le_refl _) hi
 obtain⟨os,hos,hcs,hds⟩:=id hs
 have hTs:s.TypeIs (.ref sl) "slice":=⟨os,hos,hcs⟩
 unfold getItem
 try with_reducible refine wpAny_holding ?_
 first | refine wpAny_bind (wpAny_pure ?_) | skip
 refine wpAny_bind (wpAny_sequenceKey ht.typeIs (by decide) ?_)
 refine wpAny_bind (wpAny_callSpecial?_slot (name:=Str.ofString "__getitem__") ht.typeIs PyProof.Rows.slot_tuple_getitem
  (wpAny_call_entry PyProof.Rows.slot_tuple_getitem ht.typeIs entry_tuple_getitem ?_ (args_tuple_getitem _ _)))
 show wpAny _ _ (Builtin.Tuple.tupleItemsOf (.ref t)>>=_) _ _ s
 refine wpAny_bind (tupleItemsOf_ ht ?_)
 refine wpAny_bind (wpAny_typeOf hTs ?_)
 rw[if_pos (by decide)]
 refine wpAny_bind (sliceApplied_gen hs pl pu ?_)
 have hno:¬ ((((sIx items.size 0 lo:Nat):Int)==0&&(1:Int)==1&&(sIx items.size items.size hi-sIx items.size 0 lo)==items.size)=true):=by
  intro q
  rw[Bool.and_eq_true,Bool.and_eq_true] at q
  have q1:((sIx items.size 0 lo:Nat):Int)=0:=eq_of_beq q.1.1
  have q2:sIx items.size items.size hi-sIx items.size 0 lo=items.size:=eq_of_beq q.2
  exact hw ⟨by omega,by omega⟩
 show wpAny _ _ (if (((sIx items.size 0 lo:Nat):Int)==0&&(1:Int)==1&&(sIx items.size items.size hi-sIx items.size 0 lo)==items.size)=true then _ else _) _ _ s
 rw[if_neg hno,pick_gen]
 first
  |exact wpAny_bind (m:=Builtin.Tuple.tupleExact _) (wpAny_newObj_type (wpAny_pure ⟨_,rfl,wpAny_pure h⟩) htake)
  |exact wpAny_bind (m:=Builtin.Tuple.tupleExact _) (wpAny_newObj_type (wpAny_bind (wpAny_pure (wpAny_pure ⟨_,rfl,wpAny_pure h⟩))) htake)
  |exact wpAny_bind (wpAny_bind (m:=Builtin.Tuple.tupleExact _) (wpAny_newObj_type (wpAny_pure (wpAny_pure ⟨_,rfl,wpAny_pure h⟩)) htake))
  |exact wpAny_bind (wpAny_bind (m:=Builtin.Tuple.tupleExact _) (wpAny_newObj_type (wpAny_pure ⟨_,rfl,wpAny_pure h⟩) htake))
end
end HT
namespace L2
open PySem PySem.Spec PyProof.Rows
abbrev TO:=St->Hp->(Option Int->Hp->Prop)->Prop
def PO (X:Cx) (e:Option Expr) (t:TO):Prop:=
 ∀(pins:List (Addr×Obj)) (s:Shared) (σ:St) (H:Hp) (Q:Option Int->Hp->Prop),Inv X pins σ H s->t σ H Q->
   wpAny (model X.prog X.w) X.A (evalPart e X.env) (fun u s'=>∃o H',Inv X pins σ H' s'∧IsPart u o∧Q o H') X.xe s
def tNoPart:TO:=fun _ H Q=>Q none H
def tPart(t:TE):TO:=fun σ H Q=>t σ H fun x H1=>∃i,x=.int i∧Q (some i) H1
theorem intsAre_of {ns:List Int}:∀ {us:List Value},Vals (ns.map V.int) us->IntsAre us ns:=by
 induction ns with
 |nil=>intro us r;rw[List.map_nil] at r;cases r;exact .nil
 | cons n ns ih=>
   intro us r
   rw[List.map_cons] at r
   cases r with
   |cons r1 r2=>
     obtain⟨t,e⟩:=r1
     subst e
     exact .cons n t (ih r2)
section
variable{X:Cx}{e:Expr}{te:TE}{lo hi:Option Expr}{tl th:TO}{pos p2:Pos}
theorem po_none:PO X none tNoPart:=by
 intro pins s σ H Q I h
 rw[evalPart_none]
 exact wpAny_pure ⟨none,H,I,.none,h⟩
theorem po_some(h:PE X e te):PO X (some e) (tPart te):=by
 intro pins s σ H Q I hw
 rw[evalPart_some]
 refine thn (h pins s σ H _ I hw) fun u s1 ⟨x,H1,I1,r1,q1⟩=>?_
 obtain⟨i,rfl,q⟩:=q1
 obtain⟨t,rfl⟩:=r1
 exact⟨some i,H1,I1,.int i t,q⟩
def SlR (X:Cx) (r:V->Option Int->Option Int->Hp->VK->Prop):Prop:=
 ∀(pins:List (Addr×Obj)) (s:Shared) (σ:St) (H:Hp) (x:V) (v vl vu:Value) (lo hi:Option Int) (sl:Addr) (Q:VK),Inv X pins σ H s->RelV x v->s.heap.IsSliceOf sl vl vu .none->IsPart vl lo->IsPart vu hi->r x lo hi H Q->
   ∃T id,typeLookup (.type T) "__getitem__"=pure (some (.builtin id))∧s.TypeIs v T∧wpAny (model X.prog X.w) X.A (getItem v (.ref sl)) (EP X pins σ Q) X.xe s
def tSl(r:V->Option Int->Option Int->Hp->VK->Prop)(te:TE)(tl th:TO):TE:=fun σ H Q=>te σ H fun x H1=>tl σ H1 fun l H2=>th σ H2 fun u H3=>r x l u H3 Q
theorem pe_slice{r:V->Option Int->Option Int->Hp->VK->Prop}(hr:SlR X r)(he:PE X e te)(hl:PO X lo tl)(hu:PO X hi th):PE X (.Subscript e (.Slice lo hi none p2) pos) (tSl r te tl th):=by
 intro pins s σ H Q I h
 refine Subscript_ (thn (he pins s σ H _ I h) fun v s1 ⟨x,H1,I1,r1,q1⟩=>?_)
 refine wpAny_Slice (thn (hl pins s1 σ H1 _ I1 q1) fun vl s2 ⟨l,H2,I2,pl,q2⟩=>thn (hu pins s2 σ H2 _ I2 q2) fun vu s3 ⟨u,H3,I3,pu,q3⟩=>?_)
 rw[evalPart_none]
 refine wpAny_pure ?_
 have I4:Inv X pins σ H3 { s3 with heap:=s3.heap.push { cls:=.type "slice",data:=.fields #[vl,vu,.none] } }:=I3.kept (t':=s3.toks) fun b ob q=>Heap.get?_push_of_some _ q
 obtain⟨T,id,hT,ht,hg⟩:=hr pins { s3 with heap:=s3.heap.push { cls:=.type "slice",data:=.fields #[vl,vu,.none] } } σ H3 x v vl vu l u s3.heap.objs.size Q I4 r1 (Heap.IsSliceOf.new ..) pl pu q3
 show wpAny (model X.prog X.w) X.A (subscriptTail e (.Slice lo hi none p2) v (.ref s3.heap.objs.size)) (EP X pins σ Q) X.xe { s3 with heap:=s3.heap.push { cls:=.type "slice",data:=.fields #[vl,vu,.none] } }
 exact tail_any (ops:=[.ref s3.heap.objs.size,v]) ht hT hg (by with_unfolding_all rfl)
def cutV(xs:List V)(lo hi:Option Int):List V:=(xs.drop (HT.sIx xs.length 0 lo)).take (HT.sIx xs.length xs.length hi-HT.sIx xs.length 0 lo)
theorem cutV_length(xs:List V)(lo hi:Option Int):(cutV xs lo hi).length≤xs.length:=by
 unfold cutV
 rw[List.length_take,List.length_drop]
 omega
def rSlT(K:PySem.W.Frag):V->Option Int->Option Int->Hp->VK->Prop:=fun x lo hi H Q=>∃a xs,x=.ref a∧SqT K H a xs ∧
 ¬ (HT.sIx xs.length 0 lo=0∧HT.sIx xs.length xs.length hi=xs.length)∧∀p,H p=none->Q (.ref p) (upd H p (.tup (cutV xs lo hi)))
theorem sl_tup:SlR X (rSlT X.K):=by
 intro pins s σ H x v vl vu lo hi sl Q I rx hs pl pu h
 obtain⟨a,xs,rfl,hx,hw,q⟩:=h
 cases rx
 obtain⟨its,r,ht,hz⟩:=I.tuple hx
 have hlen:its.toArray.size=xs.length:=by rw[List.size_toArray];exact r.length.symm
 refine⟨"tuple",_,PyProof.Rows.slot_tuple_getitem.lookup,ht.typeIs,?_⟩
 refine HT.getItem_tuple_cut ht hs pl pu (by rw[hlen];exact hw) ?_ (by rw[hlen];exact hz)
 rw[hlen]
 refine⟨.ref s.heap.objs.size,_,I.laid (t':=s.toks) (o:=.tup (cutV xs lo hi)) (fun b ob q=>Heap.get?_push_of_some _ q) (Nat.le_refl _) ?_,rfl,q _ (I.hok.fresh (Nat.le_refl _))⟩
 exact⟨Nat.le_trans (cutV_length xs lo hi) hz,_,(r.drop (HT.sIx xs.length 0 lo)).take (HT.sIx xs.length xs.length hi-HT.sIx xs.length 0 lo),IsTup.new _ _⟩
def rCatT(K:PySem.W.Frag):R2:=fun x y H Q=>∃a b xs ys,x=.ref a∧y=.ref b∧SqT K H a xs∧SqT K H b ys∧xs≠[]∧xs.length+ys.length≤sizeLine ∧
 (ys=[]->Q (.ref a) H)∧(ys≠[]->∀p,H p=none->Q (.ref p) (upd H p (.tup (xs++ys))))
theorem Vals.nil_iff{xs:List V}{us:List Value}(r:Vals xs us):us=[] ↔ xs=[]:=by
 cases r with
 |nil=>simp
 |cons _ _=>simp
theorem op_catT:OpR X (binaryOp .Add) (rCatT X.K):=by
 intro pins s σ H x y v u Q I rx ry h
 obtain⟨a,b,xs,ys,rfl,rfl,ha,hb,hx,hz,q1,q2⟩:=h
 cases rx
 cases ry
 obtain⟨its,r1,p1,_⟩:=I.tuple ha
 obtain⟨its2,r2,p2,_⟩:=I.tuple hb
 refine HT.cat_tup p1 p2 (fun z=>hx (r1.nil_iff.mp z)) (fun z=>⟨.ref a,H,I,rfl,q1 (r2.nil_iff.mp z)⟩) (fun z=>?_) (by rw[←r1.length,←r2.length];exact hz)
 refine⟨.ref s.heap.objs.size,_,I.laid (t':=s.toks) (o:=.tup (xs++ys)) (fun b ob q=>Heap.get?_push_of_some _ q) (Nat.le_refl _) ?_,rfl,q2 (fun w=>z (r2.nil_iff.mpr w)) _ (I.hok.fresh (Nat.le_refl _))⟩
 exact⟨by rw[List.length_append];exact hz,_,r1.append r2,IsTup.new _ _⟩
end
open PySem PySem.Spec PyProof.Rows
def ixN(n:Nat)(i:Int):Option Nat:=if 0≤i then (if i<n then some i.toNat else none) else if -(n:Int)≤i then some (i+n).toNat else none
def atI{α:Type}(xs:List α)(i:Int):Option α:=(ixN xs.length i).bind fun j=>xs[j]?
theorem ixN_seq {n:Nat}{i:Int}{j:Nat} (h:ixN n i=some j):seqIndex? i n=some j∧j<n∧-(n:Int)≤i∧i<n:=by
 unfold ixN at h
 by_cases h0:0≤i
 ·rw[if_pos h0] at h
  by_cases h1:i<n
  ·rw[if_pos h1] at h
   have e:i.toNat=j:=Option.some.inj h
   exact⟨by rw[seqIndex_of h0 h1,e],by omega,by omega,h1⟩
  ·rw[if_neg h1] at h;cases h
 ·rw[if_neg h0] at h
  by_cases h1:-(n:Int)≤i
  ·rw[if_pos h1] at h
   have e:(i+n).toNat=j:=Option.some.inj h
   exact⟨by rw[seqIndex_neg (by omega) h1,e],by omega,h1,by omega⟩
  ·rw[if_neg h1] at h;cases h
theorem atI_get {α:Type}{xs:List α}{i:Int}{v:α} (h:atI xs i=some v):∃ j,seqIndex? i xs.length=some j∧xs[j]?=some v∧j<xs.length∧-(xs.length:Int)≤i∧i<xs.length:=by
 unfold atI at h
 cases e:ixN xs.length i with
 |none=>rw[e] at h;cases h
 |some j=>
   rw[e] at h
   obtain⟨h1,h2,h3,h4⟩:=ixN_seq e
   exact⟨j,h1,h,h2,h3,h4⟩
def PlainIx(b:Expr):Prop:=∀o i,subscripted b false o i=operate [o,i] (getItem o i)
def IxR (X:Cx) (r:R2):Prop:=
 ∀(value slice:Expr) (pins:List (Addr×Obj)) (s:Shared) (σ:St) (H:Hp) (x y:V) (v u:Value) (Q:VK),Inv X pins σ H s->RelV x v->RelV y u->r x y H Q->
   subscripted slice false v u=operate [v,u] (getItem v u)->wpAny (model X.prog X.w) X.A (subscriptTail value slice v u) (EP X pins σ Q) X.xe s
def MtR (X:Cx) (id:String) (r:V->List V->Hp->VK->Prop):Prop:=
 ∀(pins:List (Addr×Obj)) (s:Shared) (σ:St) (H:Hp) (x:V) (xs:List V) (v:Value) (us:List Value) (Q:VK),Inv X pins σ H s->RelV x v->Vals xs us->r x xs H Q->
   wpAny (model X.prog X.w) X.A (call (.builtin id) (v::us)) (EP X pins σ Q) X.xe s
section
variable{X:Cx}{a b:Expr}{ta tb:TE}{pos:Pos}
theorem pe_ix{r:R2}(hr:IxR X r)(ha:PE X a ta)(hb:PE X b tb)(hs:PlainIx b):PE X (.Subscript a b pos) (tOp r ta tb):=by
 intro pins s σ H Q I h
 exact Subscript_ (binT ha hb I h fun v u s2 x y H2 I2 rx ry q=>hr a b pins s2 σ H2 x y v u Q I2 rx ry q (hs _ _))
def rIxL(K:PySem.W.Frag):R2:=fun x y H Q=>∃p xs i v,x=.ref p∧y=.int i∧SqL K H p xs∧atI xs i=some v∧Q v H
def rIxT(K:PySem.W.Frag):R2:=fun x y H Q=>∃p xs i v,x=.ref p∧y=.int i∧SqT K H p xs∧atI xs i=some v∧Q v H
theorem ix_list:IxR X (rIxL X.K):=by
 intro value slice pins s σ H x y v u Q I rx ry h hs
 obtain⟨p,xs,i,z,rfl,rfl,hq,he,q⟩:=h
 cases rx
 obtain⟨t,rfl⟩:=ry
 obtain⟨its,r,pl,hz⟩:=I.list hq
 obtain⟨j,h1,h2,h3,h4,h5⟩:=atI_get he
 obtain⟨w,ew,rw'⟩:=r.get h2
 have hl:=r.length
 have hn:=line63
 have fin:EP X pins σ Q w s:=⟨z,H,I,rw',q⟩
 by_cases h0:0≤i
 ·have hj:i.toNat=j:=by
   rw[seqIndex_of h0 h5] at h1
   exact Option.some.inj h1
  exact item_listR pl.isList h0 (by omega) (by rw[hj];simpa using ew) fin hs
 ·have hj:(i+(its.toArray.size:Int)).toNat=j:=by
   rw[seqIndex_neg (by omega) h4] at h1
   rw[List.size_toArray,←hl]
   exact Option.some.inj h1
  exact subscriptTail_builtinR (x:=w) pl.isList.typeIs slot_list_getitem.lookup
   (wpAny_getItem_list_neg (Q:=fun r s'=>r=w∧EP X pins σ Q r s') pl.isList (by omega) (by rw[List.size_toArray]<;>omega) (by omega) (by rw[hj];simpa using ew) ⟨rfl,fin⟩) hs
theorem ix_tup:IxR X (rIxT X.K):=by
 intro value slice pins s σ H x y v u Q I rx ry h hs
 obtain⟨p,xs,i,z,rfl,rfl,hq,he,q⟩:=h
 cases rx
 obtain⟨t,rfl⟩:=ry
 obtain⟨its,r,pl,hz⟩:=I.tuple hq
 obtain⟨j,h1,h2,h3,h4,h5⟩:=atI_get he
 obtain⟨w,ew,rw'⟩:=r.get h2
 have hl:=r.length
 have hn:=line63
 have fin:EP X pins σ Q w s:=⟨z,H,I,rw',q⟩
 exact subscriptTail_builtinR (x:=w) pl.typeIs slot_tuple_getitem.lookup
  (getItem_tuple (j:=j) (Q:=fun r s'=>r=w∧EP X pins σ Q r s') pl (by omega) (by omega) (by rw[List.size_toArray,←hl];exact h1) (by simpa using ew) ⟨rfl,fin⟩) hs
theorem mapSeq_set(its:List Value)(n j:Nat)(u:Value):Obj.mapSeq (·.setIfInBounds j u) { cls:=.type "list",data:=.seq its.toArray n }={ cls:=.type "list",data:=.seq (its.set j u).toArray n }:=by
 simp[Obj.mapSeq]
theorem Inv.lst{pins:List (Addr×Obj)}{σ:St}{H:Hp}{s:Shared}{p:Addr}{xs:List V}(I:Inv X pins σ H s)(h:H p=some (.lst xs)) :
  ∃(its:List Value) (n:Nat),Vals xs its∧s.heap.get? p=some { cls:=.type "list",data:=.seq its.toArray n }∧xs.length≤sizeLine:=by
 obtain⟨z,its,n,r,e⟩:=I.hok p _ h
 exact⟨its,n,r,e,z⟩
theorem Inv.lstUpd{pins:List (Addr×Obj)}{σ:St}{H:Hp}{s:Shared}{p:Addr}{xs ys:List V}{its its':List Value}{n n':Nat}{f:Obj->Obj}(I:Inv X pins σ H s)(h:H p=some (.lst xs))
  (ho:s.heap.get? p=some { cls:=.type "list",data:=.seq its.toArray n }) (hf:f { cls:=.type "list",data:=.seq its.toArray n }={ cls:=.type "list",data:=.seq its'.toArray n' }) (r:Vals ys its') (hz:ys.length≤sizeLine) (t:Nat) :
  Inv X pins σ (upd H p (.lst ys)) { s with heap:=s.heap.update p f,toks:=t }:=by
 have e:(s.heap.update p f).get? p=some { cls:=.type "list",data:=.seq its'.toArray n' }:=by
  rw[Heap.get?_update_self f ho (by rw[hf]<;>rfl),hf]
 refine I.write (x:=p) (e:=p) (by rw[h];trivial) (.inl rfl) (fun b u hb q=>(Heap.get?_update_other _ _ (Ne.symm hb)).trans q) ⟨_,e⟩ ?_
 exact⟨hz,its',n',r,e⟩
def rSetL:V->V->V->Hp->(Hp->Prop)->Prop:=fun o i v H Q=>∃p xs k j,o=.ref p∧i=.int k∧H p=some (.lst xs)∧ixN xs.length k=some j∧Q (upd H p (.lst (xs.set j v)))
theorem set_list:PSet X rSetL:=by
 intro pins s σ H o i v ov iv u Q I ro ri rv h
 obtain⟨p,xs,k,j,rfl,rfl,hp,hj,q⟩:=h
 cases ro
 obtain⟨t,rfl⟩:=ri
 obtain⟨its,n,r,ho,hz⟩:=I.lst hp
 obtain⟨h1,h2,h3,h4⟩:=ixN_seq hj
 have hl:=r.length
 have hn:=line63
 have I':Inv X pins σ (upd H p (.lst (xs.set j v))) { s with heap:=s.heap.update p (Obj.mapSeq (·.setIfInBounds j u)) }:=
  I.lstUpd hp ho (mapSeq_set its n j u) (r.set rv j) (by rw[List.length_set];exact hz) s.toks
 by_cases h0:0≤k
 ·have hk:k.toNat=j:=by
   rw[seqIndex_of h0 h4] at h1
   exact Option.some.inj h1
  exact PySem.W.ki_setAt ho h0 (by omega) (by rw[List.size_toArray,←hl];exact h4) (by rw[hk];exact⟨_,I',q⟩)
 ·have hk:(k+(its.toArray.size:Int)).toNat=j:=by
   rw[seqIndex_neg (by omega) h3] at h1
   rw[List.size_toArray,←hl]
   exact Option.some.inj h1
  exact PySem.W.ki_setBack ho (by omega) (by rw[List.size_toArray,←hl];exact h3) (by omega) (by rw[hk];exact⟨_,I',q⟩)
theorem slice_bounds (lo hi:Option Int) (n:Nat):(sliceBounds lo hi none n).1=((HT.sIx n 0 lo:Nat):Int)∧(sliceBounds lo hi none n).2.1=((HT.sIx n n hi:Nat):Int)∧(sliceBounds lo hi none n).2.2=1:=by
 refine⟨?_,?_,rfl⟩
 ·cases lo with
  |none=>simp[sliceBounds,HT.sIx]
  |some i=>
    simp only[sliceBounds,HT.sIx,Option.getD_none,show (1:Int) > 0 by decide,if_true]
    by_cases h:i<0
    ·simp only[h,if_true]<;>omega
    ·simp only[h,if_false]<;>omega
 ·cases hi with
  |none=>simp[sliceBounds,HT.sIx]
  |some i=>
    simp only[sliceBounds,HT.sIx,Option.getD_none,show (1:Int) > 0 by decide,if_true]
    by_cases h:i<0
    ·simp only[h,if_true]<;>omega
    ·simp only[h,if_false]<;>omega
theorem slicePick_cut(its:List Value)(lo hi:Option Int):slicePick its.toArray lo hi none=((its.drop (HT.sIx its.length 0 lo)).take (HT.sIx its.length its.length hi-HT.sIx its.length 0 lo)).toArray:=by
 obtain⟨h1,h2,h3⟩:=slice_bounds lo hi its.toArray.size
 unfold slicePick
 rw[h1,h2,h3]
 simp only[sliceRange_one,pick_run,List.size_toArray]<;>rfl
def rSlL(K:PySem.W.Frag):V->Option Int->Option Int->Hp->VK->Prop:=fun x lo hi H Q=>∃a xs,x=.ref a∧SqL K H a xs∧∀p,H p=none->Q (.ref p) (upd H p (.lst (cutV xs lo hi)))
theorem sl_list:SlR X (rSlL X.K):=by
 intro pins s σ H x v vl vu lo hi sl Q I rx hs pl pu h
 obtain⟨a,xs,rfl,hx,q⟩:=h
 cases rx
 obtain⟨its,r,ht,hz⟩:=I.list hx
 have hlen:=r.length
 refine⟨"list",_,slot_list_getitem.lookup,ht.isList.typeIs,?_⟩
 refine wpAny_getItem_list_slice ht.isList hs pl pu .none (by simp) ?_ (by rw[List.size_toArray]<;>omega)
 rw[slicePick_cut,←hlen]
 refine⟨.ref s.heap.objs.size,_,I.laid (t':=s.toks) (o:=.lst (cutV xs lo hi)) (fun b ob q=>Heap.get?_push_of_some _ q) (Nat.le_refl _) ?_,rfl,q _ (I.hok.fresh (Nat.le_refl _))⟩
 exact⟨Nat.le_trans (cutV_length xs lo hi) hz,_,0,(r.drop (HT.sIx xs.length 0 lo)).take (HT.sIx xs.length xs.length hi-HT.sIx xs.length 0 lo),Heap.get?_push_size _ rfl⟩
def flatV:V->Bool
 |.non=>true
 |.bl _=>true
 |.int _=>true
 |.str _=>true
 |_=>false
def eqV:V->V->Bool
 |.non,.non=>true
 |.bl a,.bl b=>a==b
 |.bl a,.int b=>(if a then 1 else 0)==b
 |.int a,.bl b=>a==(if b then 1 else 0)
 |.int a,.int b=>a==b
 |.str a,.str b=>a==b
 |_,_=>false
theorem eqAt_V {A:Around}{s:Shared}{y x:V}{u v:Value} (ry:RelV y u) (rx:RelV x v) (fy:flatV y=true) (fx:flatV x=true):SeqAt.EqAt A s u v (eqV y x):=by
 cases y with
 |non=>
   cases ry
   cases x with
   |non=>cases rx;exact SeqAt.EqAt.same _
   |bl b=>cases rx;exact SeqAt.EqAt.none_bool b
   |int b=>obtain⟨t,rfl⟩:=rx;exact SeqAt.EqAt.none_int b t
   |str b=>obtain⟨t,rfl⟩:=rx;exact SeqAt.EqAt.none_str b t
   |_=>exact absurd (show false=true from fx) Bool.false_ne_true
 |bl a=>
   cases ry
   cases x with
   |non=>cases rx;exact SeqAt.EqAt.bool_none a
   |bl b=>cases rx;exact SeqAt.EqAt.bool_bool a b
   |int b=>obtain⟨t,rfl⟩:=rx;exact SeqAt.EqAt.bool_int a b t
   |str b=>obtain⟨t,rfl⟩:=rx;exact SeqAt.EqAt.bool_str a b t
   |_=>exact absurd (show false=true from fx) Bool.false_ne_true
 |int a=>
   obtain⟨t',rfl⟩:=ry
   cases x with
   |non=>cases rx;exact SeqAt.EqAt.int_none a t'
   |bl b=>cases rx;exact SeqAt.EqAt.int_bool a t' b
   |int b=>obtain⟨t,rfl⟩:=rx;exact SeqAt.EqAt.int_int a t' b t
   |str b=>obtain⟨t,rfl⟩:=rx;exact SeqAt.EqAt.int_str a t' b t
   |_=>exact absurd (show false=true from fx) Bool.false_ne_true
 |str a=>
   obtain⟨t',rfl⟩:=ry
   cases x with
   |non=>cases rx;exact SeqAt.EqAt.str_none a t'
   |bl b=>cases rx;exact SeqAt.EqAt.str_bool a t' b
   |int b=>obtain⟨t,rfl⟩:=rx;exact SeqAt.EqAt.str_int a t' b t
   |str b=>obtain⟨t,rfl⟩:=rx;exact SeqAt.EqAt.str_str a t' b t
   |_=>exact absurd (show false=true from fx) Bool.false_ne_true
 |_=>exact absurd (show false=true from fy) Bool.false_ne_true
def eqU(x:V)(u:Value):Bool:=match u with
 |.none=>eqV .non x
 |.bool b=>eqV (.bl b) x
 |.int i _=>eqV (.int i) x
 |.str z _=>eqV (.str z) x
 |_=>false
theorem eqU_of{x y:V}{u:Value}(r:RelV y u)(f:flatV y=true):eqU x u=eqV y x:=by
 cases y with
 |non=>cases r;rfl
 |bl b=>cases r;rfl
 |int i=>obtain⟨t,rfl⟩:=r;rfl
 |str z=>obtain⟨t,rfl⟩:=r;rfl
 |_=>exact absurd (show false=true from f) Bool.false_ne_true
theorem any_eqU {x:V}:∀ {xs:List V}{us:List Value},Vals xs us->xs.all flatV=true->us.any (eqU x)=xs.any fun y=>eqV y x
 |_,_,.nil,_=>rfl
 |y::xs,u::us,.cons r t,f=>by
   rw[List.all_cons,Bool.and_eq_true] at f
   rw[List.any_cons,List.any_cons,eqU_of r f.1,any_eqU t f.2]
theorem mem_eqAt {A:Around}{s:Shared}{x:V}{v:Value} (rx:RelV x v) (fx:flatV x=true):∀ {xs:List V}{us:List Value},Vals xs us->xs.all flatV=true->∀ u∈us,SeqAt.EqAt A s u v (eqU x u)
 |_,_,.nil,_=>fun u hu=>by cases hu
 |y::xs,u::us,.cons r t,f=>fun u' hu=>by
   rw[List.all_cons,Bool.and_eq_true] at f
   rcases List.mem_cons.mp hu with rfl | hu
   ·rw[eqU_of r f.1];exact eqAt_V r rx f.1 fx
   ·exact mem_eqAt rx fx t f.2 u' hu
def inV(x:V)(xs:List V):Bool:=xs.any fun y=>eqV y x
def rIn(K:PySem.W.Frag)(neg:Bool):R2:=fun x y H Q=>∃p xs,y=.ref p∧(SqL K H p xs∨SqT K H p xs)∧flatV x=true∧xs.all flatV=true∧Q (.bl (if neg then !inV x xs else inV x xs)) H
theorem op_notIn_seq:OpR X (compareOp .NotIn) (rIn X.K true):=by
 intro pins s σ H x y v u Q I rx ry h
 obtain⟨p,xs,rfl,hq,fx,fs,q⟩:=h
 cases ry
 rcases hq with hq | hq
 ·obtain⟨its,r,pl,hz⟩:=I.list hq
  refine SeqAt.notIn_listAt (eqU x) pl.isList (fun w hw=>mem_eqAt rx fx r fs w (by simpa using hw)) ⟨.bl _,H,I,rfl,?_⟩
  rw[show its.toArray.any (eqU x)=its.any (eqU x) by simp,any_eqU r fs]
  exact q
 ·obtain⟨its,r,pl,hz⟩:=I.tuple hq
  refine SeqAt.notIn_tupleAt (eqU x) pl (fun w hw=>mem_eqAt rx fx r fs w (by simpa using hw)) ⟨.bl _,H,I,rfl,?_⟩
  rw[show its.toArray.any (eqU x)=its.any (eqU x) by simp,any_eqU r fs]
  exact q
theorem call_len_seq:CallR X (.builtin "len") (fun xs H Q=>∃p ys,xs=[.ref p]∧(SqL X.K H p ys∨SqT X.K H p ys)∧Q (.int ys.length) H):=by
 intro pins s σ H xs us Q I r h
 obtain⟨p,ys,rfl,hq,q⟩:=h
 obtain⟨u,rfl,rx⟩:=vals1 r
 cases rx
 have hn:=line63
 rcases hq with hq | hq
 ·obtain⟨its,r',pl,hz⟩:=I.list hq
  have hlen:=r'.length
  exact Calls.call_len_list pl.isList (by simp only[List.size_toArray]<;>omega) ⟨.int ys.length,H,I.tok _,⟨s.toks+1,by rw[List.size_toArray,hlen]⟩,q⟩
 ·obtain⟨its,r',pl,hz⟩:=I.tuple hq
  have hlen:=r'.length
  exact len_tuple pl (by simp only[List.size_toArray]<;>omega) ⟨.int ys.length,H,I.tok _,⟨s.toks+1,by rw[List.size_toArray,hlen]⟩,q⟩
theorem call_len_str:CallR X (.builtin "len") (fun xs H Q=>∃z,xs=[.str z]∧z.length≤sizeLine∧Q (.int z.length) H):=by
 intro pins s σ H xs us Q I r h
 obtain⟨z,rfl,hz,q⟩:=h
 obtain⟨u,rfl,t,rfl⟩:=vals1 r
 have hn:=line63
 exact len_str (by omega) ⟨.int z.length,H,I.tok _,⟨_,rfl⟩,q⟩
theorem CallR.or{f:Value}{r r':List V->Hp->VK->Prop}(h:CallR X f r)(h':CallR X f r'):CallR X f (fun xs H Q=>r xs H Q∨r' xs H Q):=by
 intro pins s σ H xs us Q I rs q
 rcases q with q | q
 ·exact h pins s σ H xs us Q I rs q
 ·exact h' pins s σ H xs us Q I rs q
theorem call_list_of:CallR X (.type "list") (fun xs H Q=>∃ p ys,xs=[.ref p]∧(SqL X.K H p ys∨SqT X.K H p ys)∧∀ l,H l=none->Q (.ref l) (upd H l (.lst ys))):=by
 intro pins s σ H xs us Q I r h
 obtain⟨p,ys,rfl,hq,q⟩:=h
 obtain⟨u,rfl,rx⟩:=vals1 r
 cases rx
 have fin:∀(its:List Value),Vals ys its->ys.length≤sizeLine->∀(h':Heap) (c':Nat),(∀b o',s.heap.get? b=some o'->h'.get? b=some o')->
   h'.get? s.heap.objs.size=some { cls:=.type "list",dict:=none,data:=.seq its.toArray c',slots:=#[] }->EP X pins σ Q (.ref s.heap.objs.size) { s with heap:=h' }:=fun its r' hz h' c' kp e=>
  ⟨.ref s.heap.objs.size,_,I.laid (t':=s.toks) kp (Nat.le_refl _) (show ObjOk X.prog X.w _ h' _ (.lst ys) from⟨hz,its,c',r',e⟩),rfl,q _ (I.hok.fresh (Nat.le_refl _))⟩
 rcases hq with hq | hq
 ·obtain⟨its,r',pl,hz⟩:=I.list hq
  have hlen:=r'.length
  obtain⟨o,ho,hc,n,hd⟩:=pl.isList
  exact call_list_seq p (.inl rfl) ho hc hd (fun h' c' kp e=>fin its r' hz h' c' kp e) (by simp only[List.size_toArray]<;>omega)
 ·obtain⟨its,r',pl,hz⟩:=I.tuple hq
  have hlen:=r'.length
  obtain⟨o,ho,hc,n,hd⟩:=pl
  exact call_list_seq p (.inr rfl) ho hc hd (fun h' c' kp e=>fin its r' hz h' c' kp e) (by simp only[List.size_toArray]<;>omega)
theorem call_tuple_of:CallR X (.type "tuple") (fun xs H Q=>∃ p ys,xs=[.ref p]∧((SqL X.K H p ys∧∀ l,H l=none->Q (.ref l) (upd H l (.tup ys)))∨(SqT X.K H p ys∧Q (.ref p) H))):=by
 intro pins s σ H xs us Q I r h
 obtain⟨p,ys,rfl,h⟩:=h
 obtain⟨u,rfl,rx⟩:=vals1 r
 cases rx
 rcases h with ⟨hq,q⟩ | ⟨hq,q⟩
 ·obtain⟨its,r',pl,hz⟩:=I.list hq
  have hlen:=r'.length
  refine call_tuple_list pl.isList (fun h' kp=>?_) (by simp only[List.size_toArray]<;>omega)
  have I1:Inv X pins σ H { s with heap:=h' }:=I.kept (t':=s.toks) kp
  have I2:Inv X pins σ (upd H h'.objs.size (.tup ys)) { s with heap:=h'.push { cls:=.type "tuple",data:=.seq its.toArray } }:=
   I1.laid (t':=s.toks) (fun b o e=>Heap.get?_push_of_some _ e) (Nat.le_refl _) (show ObjOk X.prog X.w _ _ _ (.tup ys) from⟨hz,its,r',IsTup.new _ _⟩)
  exact⟨.ref h'.objs.size,_,I2,rfl,q _ (I1.hok.fresh (Nat.le_refl _))⟩
 ·obtain⟨its,r',pl,hz⟩:=I.tuple hq
  exact call_tuple_same pl ⟨.ref p,H,I,rfl,q⟩
def tyV (K:PySem.W.Frag) (T:String) (x:V) (H:Hp):Prop:=match x with
 |.str _=>T = "str"
 |.int _=>T = "int"
 |.ref p=>(T = "list"∧∃xs,SqL K H p xs)∨(T = "tuple"∧∃o,K.lookup p=some o∧o.cls=.type "tuple"∧o.dict=none) ∨
   (T = "dict"∧((∃kvs,H p=some (.dK kvs))∨∃kvs,H p=some (.dT kvs)))∨(T = "set"∧∃S n,H p=some (.set S n))
 |_=>False
theorem tyV_is {pins:List (Addr×Obj)}{σ:St}{H:Hp}{s:Shared}{T:String}{x:V}{v:Value} (I:Inv X pins σ H s) (r:RelV x v) (ty:tyV X.K T x H) :
  s.TypeIs v T∧∀a,v=.ref a->∃ob,s.heap.get? a=some ob∧ob.dict=none:=by
 cases x with
 |str z=>
   obtain⟨t,rfl⟩:=r
   cases (show T = "str" from ty)
   exact⟨typeIs_str s z t,fun _ e=>nomatch e⟩
 |int i=>
   obtain⟨t,rfl⟩:=r
   cases (show T = "int" from ty)
   exact⟨typeIs_int s i t,fun _ e=>nomatch e⟩
 | ref p=>
   cases r
   rcases ty with ⟨rfl,xs,hq⟩ | ⟨rfl,o,hk,hc,hd⟩ | ⟨rfl,hk⟩ | ⟨rfl,S,n,hk⟩
   ·obtain⟨its,_,pl,_⟩:=I.list hq
    refine⟨pl.isList.typeIs,fun a e=>?_⟩
    cases e
    obtain⟨o,n,e,c,hd,_⟩:=pl
    exact⟨o,e,hd⟩
   ·refine⟨⟨o,I.kIn p o hk,hc⟩,fun a e=>?_⟩
    cases e
    exact⟨o,I.kIn _ o hk,hd⟩
   ·have z:∃ o,s.heap.get? p=some o∧o.ExactDict:=by
     rcases hk with ⟨kvs,hk⟩ | ⟨kvs,hk⟩
     ·obtain⟨_,_,_,_,o,_,_,e,ex,_⟩:=I.hok p _ hk
      exact⟨o,e,ex⟩
     ·obtain⟨_,_,_,_,o,_,_,e,ex,_⟩:=I.hok p _ hk
      exact⟨o,e,ex⟩
    obtain⟨o,e,ex⟩:=z
    refine⟨⟨o,e,ex.1⟩,fun a e2=>?_⟩
    cases e2
    exact⟨o,e,ex.2.1⟩
   ·obtain⟨o,_,_,_,e,ex,_⟩:=I.hok p _ hk
    refine⟨⟨o,e,ex.1⟩,fun a e2=>?_⟩
    cases e2
    exact⟨o,e,ex.2.1⟩
 |_=>exact False.elim ty
def tBM(K:PySem.W.Frag)(T:String)(r:V->List V->Hp->VK->Prop)(to:TE)(t:TA):TE:=fun σ H Q=>to σ H fun x H1=>tyV K T x H1∧t σ H1 fun xs H2=>r x xs H2 Q
variable{o e:Expr}{es:List Expr}{to:TE}{t:TA}{name:Str}{apos cpos:Pos}{T id:String}{r:V->List V->Hp->VK->Prop}
theorem pe_bm (pa:PlainAttrs T) (slot:Slot T name id) (hty:typeOf (.builtin id)=pure (.type "method_descriptor")) (hm:MtR X id r) (ho:PE X o to) (ha:PA X (e::es) t)
  (hbase:attributeBase o name X.env (eval o X.env)=eval o X.env:=by rfl)
  (hfew:((backTo cpos (starEach (e::es) X.env)).all (fun x=>!x.1)&&(backToKw cpos (keywordEach [] X.env)).all (fun x=>x.1.isSome)
   &&decide ((e::es).length+([]:List Keyword).length+(if ([]:List Keyword).isEmpty then 0 else 1)<30))=true:=by rfl)
  (hline:(apos.endLine==cpos.line)=true:=by rfl) (hs:starEach (e::es) X.env=(false,eval e X.env)::starEach es X.env:=by rfl) (hplain:(backTo cpos (starEach es X.env)).any (·.1)=false:=by rfl) :
  PE X (.Call (.Attribute o name apos) (e::es) [] cpos) (tBM X.K T r to t):=by
 intro pins s σ H Q I h
 refine wpAny_Call_method_late hbase hfew hline rfl (thn (ho pins s σ H _ I h) fun v s1 ⟨x,H1,I1,r1,ty,q1⟩=>?_)
 obtain⟨h1,h2⟩:=tyV_is I1 r1 ty
 refine⟨T,id,pa,slot,hty,h1,h2,?_⟩
 have hA:=ha cpos pins s1 σ H1 _ I1 q1
 rw[hs] at hA ⊢
 refine Calls.callWith_builtin (by show (false || (backTo cpos (starEach es X.env)).any (·.1))=false;rw[hplain]<;>rfl) (Calls.evalArgs_plain ?_)
 exact thn hA fun us s2 ⟨vs,H2,I2,r2,q2⟩=>hm pins s2 σ H2 x vs v us Q I2 r1 r2 q2
end
open PySem PySem.Spec PyProof.Rows
def MtM (X:Cx) (id:String) (r:V->List V->Hp->VK->Prop):Prop:=
 ∀(pins:List (Addr×Obj)) (s:Shared) (σ:St) (H:Hp) (x:V) (xs:List V) (v:Value) (us:List Value) (Q:VK),Inv X pins σ H s->RelV x v->Vals xs us->r x xs H Q->
   wpAny (model X.prog X.w) X.A (call (.builtin id) (v::us)) (EP X pins σ Q) X.xe s
theorem Vals.one:∀{x:V}{us:List Value},Vals [x] us->∃u,us=[u]∧RelV x u
 |_,_,.cons r .nil=>⟨_,rfl,r⟩
theorem Vals.reverse{xs:List V}{us:List Value}(h:Vals xs us):Vals xs.reverse us.reverse:=by
 induction h with
 |nil=>exact .nil
 |cons r t ih=>rw[List.reverse_cons,List.reverse_cons];exact Vals.append ih (.cons r .nil)
theorem Vals.rep {xs:List V}{us:List Value} (h:Vals xs us):∀ k:Nat,Vals (List.replicate k xs).flatten (List.replicate k us).flatten
 |0=>.nil
 |k+1=>by
   rw[List.replicate_succ,List.replicate_succ,List.flatten_cons,List.flatten_cons]
   exact Vals.append h (Vals.rep h k)
theorem foldl_rep (its:List Value):∀ (k:Nat) (acc:List Value),
  List.foldl (fun x1 x2=>x1++x2) acc.toArray (List.replicate k its.toArray)=(acc++(List.replicate k its).flatten).toArray
 |0,acc=>by simp
 | k + 1,acc=>by
   have e:acc.toArray++its.toArray=(acc++its).toArray:=by simp
   have e2:(acc++its)++(List.replicate k its).flatten=acc++(List.replicate (k+1) its).flatten:=by
    rw[List.replicate_succ,List.flatten_cons,List.append_assoc]
   rw[←e2,←foldl_rep its k (acc++its),←e,List.replicate_succ,List.foldl_cons]
section
variable{X:Cx}{pins:List (Addr×Obj)}{σ:St}{H:Hp}{s:Shared}{l b:Addr}{xs ys zs:List V}
theorem Inv.lset{its its':List Value}{n:Nat}{f:Array Value->Array Value}{t':Nat}(I:Inv X pins σ H s)(hH:H l=some (.lst xs))
  (e:s.heap.get? l=some { cls:=.type "list",data:=.seq its.toArray n }) (hf:f its.toArray=its'.toArray) (hv:Vals ys its') (hz:ys.length≤sizeLine) :
  Inv X pins σ (upd H l (.lst ys)) { s with heap:=s.heap.update l (Obj.mapSeq f),toks:=t' }:=by
 have q:=PySem.IsL.update e f
 rw[hf] at q
 refine I.write (x:=l) (e:=l) (by rw[hH];exact trivial) (.inl rfl) (fun b' u hb hu=>(Heap.get?_update_other s.heap (Obj.mapSeq f) (Ne.symm hb)).trans hu) ⟨_,q⟩ ?_
 exact⟨hz,its',_,hv,q⟩
theorem Inv.lnew{its:List Value}{t':Nat}(I:Inv X pins σ H s)(hv:Vals ys its)(hz:ys.length≤sizeLine) :
  Inv X pins σ (upd H s.heap.objs.size (.lst ys)) { s with heap:=s.heap.push { cls:=.type "list",data:=.seq its.toArray },toks:=t' }:=
 I.laid (fun _ _ q=>Heap.get?_push_of_some _ q) (Nat.le_refl _) ⟨hz,its,0,hv,Heap.get?_push_size _ rfl⟩
theorem Inv.fresh(I:Inv X pins σ H s):H s.heap.objs.size=none:=I.hok.fresh (Nat.le_refl _)
theorem Inv.lstM(I:Inv X pins σ H s)(hH:H l=some (.lst xs)):xs.length≤sizeLine∧∃(its:List Value) (n:Nat),Vals xs its∧xs.length=its.length∧s.heap.get? l=some { cls:=.type "list",data:=.seq its.toArray n }:=by
 obtain⟨z,its,n,r,e⟩:=I.hok l _ hH
 exact⟨z,its,n,r,r.length,e⟩
theorem notLongL{n:Nat}(h:n≤sizeLine):Builtin.List.listTooLong n=false:=by
 unfold Builtin.List.listTooLong
 exact decide_eq_false (by omega)
end
section
variable{X:Cx}
def rAppend:V->List V->Hp->VK->Prop:=fun x vs H Q=>∃l xs y,x=.ref l∧vs=[y]∧H l=some (.lst xs)∧xs.length<sizeLine∧Q .non (upd H l (.lst (xs++[y])))
theorem mt_append:MtM X "list.append" rAppend:=by
 intro pins s σ H x vs v us Q I rx rv h
 obtain⟨l,xs,y,rfl,rfl,hH,hz,q⟩:=h
 cases rx
 obtain⟨u,rfl,ru⟩:=rv.one
 obtain⟨z,its,n,r,hl,e⟩:=I.lstM hH
 refine call_meets F.slot_list_append ⟨_,e,rfl⟩ F.entry_list_append (F.args_list_append_2 _ _) (PySem.list_append l its.toArray n u (by rw[List.size_toArray];omega)) ⟨e,?_⟩
 refine⟨.non,_,I.lset (its':=its++[u]) hH e (by simp) (r.append (.cons ru .nil)) ?_,rfl,q⟩
 rw[List.length_append,List.length_singleton]
 omega
def rExtend:V->List V->Hp->VK->Prop:=fun x vs H Q=>∃l b xs zs,x=.ref l∧vs=[.ref b]∧H l=some (.lst xs)∧H b=some (.lst zs)∧xs.length+zs.length≤sizeLine∧Q .non (upd H l (.lst (xs++zs)))
theorem mt_extend:MtM X "list.extend" rExtend:=by
 intro pins s σ H x vs v us Q I rx rv h
 obtain⟨l,b,xs,zs,rfl,rfl,hH,hB,hz,q⟩:=h
 cases rx
 obtain⟨u,rfl,ru⟩:=rv.one
 cases ru
 obtain⟨z,its,n,r,hl,e⟩:=I.lstM hH
 obtain⟨z2,its2,n2,r2,hl2,e2⟩:=I.lstM hB
 have hsz:its.toArray.size+its2.toArray.size≤sizeLine:=by rw[List.size_toArray,List.size_toArray];omega
 have hlong:¬ (!its.toArray.isEmpty&&Builtin.List.listTooLong (its.toArray.size+its2.toArray.size))=true:=by
  rw[notLongL hsz,Bool.and_false]
  exact Bool.false_ne_true
 refine call_meets F.slot_list_extend ⟨_,e,rfl⟩ F.entry_list_extend (F.args_list_extend_2 _ _)
  (AutoSeq1.list_extend_list_list_0 l its.toArray n b its2.toArray n2 hlong (by rw[List.size_toArray];omega) (by omega)) ⟨e,e2,?_⟩
 refine⟨.non,_,I.lset (its':=its++its2) hH e (by simp) (r.append r2) ?_,rfl,q⟩
 rw[List.length_append]
 omega
def rCat:R2:=fun x y H Q=>∃l b xs zs,x=.ref l∧y=.ref b∧H l=some (.lst xs)∧H b=some (.lst zs)∧xs.length+zs.length≤sizeLine∧∀p,H p=none->Q (.ref p) (upd H p (.lst (xs++zs)))
theorem op_cat:OpR X (binaryOp .Add) rCat:=by
 intro pins s σ H x y v u Q I rx ry h
 obtain⟨l,b,xs,zs,rfl,rfl,hH,hB,hz,q⟩:=h
 cases rx
 cases ry
 obtain⟨z,its,n,r,hl,e⟩:=I.lstM hH
 obtain⟨z2,its2,n2,r2,hl2,e2⟩:=I.lstM hB
 refine PySem.P.add_list e e2 ?_ (by rw[List.size_toArray,List.size_toArray];omega)
 have ea:its.toArray++its2.toArray=(its++its2).toArray:=by simp
 rw[ea]
 exact⟨.ref _,_,I.lnew (t':=s.toks) (r.append r2) (by rw[List.length_append];omega),rfl,q _ I.fresh⟩
def rRep:R2:=fun x y H Q=>∃l k xs,x=.ref l∧y=.int k∧H l=some (.lst xs)∧-(2^63)≤k∧k<2^63∧xs.length*k.toNat≤sizeLine ∧
 ∀p,H p=none->Q (.ref p) (upd H p (.lst (List.replicate k.toNat xs).flatten))
theorem len_rep{α:Type}(xs:List α)(k:Nat):(List.replicate k xs).flatten.length=k*xs.length:=by
 induction k with
 |zero=>simp
 |succ k ih=>rw[List.replicate_succ,List.flatten_cons,List.length_append,ih,Nat.succ_mul,Nat.add_comm]
theorem op_rep:OpR X (binaryOp .Mult) rRep:=by
 intro pins s σ H x y v u Q I rx ry h
 obtain⟨l,k,xs,rfl,rfl,hH,h1,h2,hz,q⟩:=h
 cases rx
 obtain⟨t,rfl⟩:=ry
 obtain⟨z,its,n,r,hl,e⟩:=I.lstM hH
 have hlen:its.toArray.size*k.toNat≤sizeLine:=by rw[List.size_toArray,←hl];exact hz
 have hcap:¬ its.toArray.size*k.toNat > (2^63-1) / 8:=by
  have:(sizeLine:Nat)≤(2^63-1) / 8:=by decide
  omega
 have hfit:¬ (!Builtin.List.listFitsIndex k)=true:=by
  rw[fitsIndex_both h1 h2]
  exact Bool.false_ne_true
 have hlong:¬ Builtin.List.listTooLong (its.toArray.size*k.toNat)=true:=by
  rw[notLongL hlen]
  exact Bool.false_ne_true
 have hnew:List.foldl (fun x1 x2=>x1++x2) #[] (List.replicate (if its.toArray.isEmpty=true then 0 else k.toNat) its.toArray)=(List.replicate k.toNat its).flatten.toArray:=by
  have f0:∀m:Nat,List.foldl (fun x1 x2=>x1++x2) #[] (List.replicate m its.toArray)=(List.replicate m its).flatten.toArray:=fun m=>by
   have:=foldl_rep its m []
   rw[List.nil_append] at this
   exact this
  rw[f0]
  cases its with
  |nil=>simp
  |cons a r'=>rw[if_neg (by simp)]
 refine wpAny_binaryOp_repeat_ref (T := "list") (U := "int") (by decide) ⟨_,e,rfl⟩ (fun s'=>typeIs_int s' k t) noFill_list_mul F.fills_int_mul F.slot_int_rmul repeat_list F.slot_int_index.lookup
  (call_meets F.slot_int_rmul (typeIs_int s k t) F.entry_int_rmul (F.args_int_rmul_2 _ _) (int___rmul___int_list k t l its.toArray n)
    ⟨e,rfl,⟨_,e,rfl⟩,call_meets F.slot_list_mul ⟨_,e,rfl⟩ F.entry_list_mul (F.args_list_mul_2 _ _) (AutoListH.list___mul___list_int_3 l its.toArray n k t hfit hcap hlong) ⟨e,?_⟩⟩)
 rw[hnew]
 exact⟨.ref _,_,I.lnew (t':=s.toks) (r.rep k.toNat) (by rw[len_rep,Nat.mul_comm];exact hz),rfl,q _ I.fresh⟩
end
end L2
namespace Att
open PySem PySem.W PySem.Calls PyProof.Rows
theorem ints_of_wellAll {P:Params}{h:Heap}:∀ (ns:List Int) (vs:List Value),WellAll P h vs (ns.map WData.int)->IntsAre vs ns:=by
 intro ns
 induction ns with
 |nil=>
   intro vs w
   rw[List.map_nil] at w
   cases w
   exact .nil
 | cons n ns ih=>
   intro vs w
   rw[List.map_cons] at w
   cases w with
   |cons a b=>
     cases a
     exact .cons _ _ (ih _ b)
theorem script_of {l:OpenLaw}{n:Nat} (hn:l.most=some n) {P:Params}{h:Heap}{args:List WData}{vals:List Value}
  (hpre:l.row.toRowW.claim.pre args=true) (hwl:WellAll P h vals args) :
  ∃a vs ns,vals=[Value.ref a]∧args=[WData.list (ns.map WData.int)]∧h.get? a=some { cls:=.type "list",data:=.seq vs.toArray }∧IntsAre vs ns∧ns.length≤n:=by
 have hsh:WShape.hasAll [] args [.list .int]=true:=(pre_splitW hpre).1
 have hc:l.pre.holds [] { args:=args }=true:=(pre_splitW hpre).2
 obtain⟨d,r,rfl,h1,h2⟩:=hasAllW_cons hsh
 obtain rfl:=hasAllW_nil h2
 obtain⟨xs,rfl,h3⟩:=hasW_list h1
 obtain⟨ns,rfl⟩:=items_int h3
 have hlen:ns.length≤n:=by
  unfold OpenLaw.pre at hc
  have h4:(WTm.not (.lt (.lit (.int (n:Int))) (.len (.arg 0)))).holds [] { args:=[.list (ns.map .int)] }=true:=by
   have h4:=(holds_andW hc).1
   rw[hn] at h4
   exact h4
  have h5:=condW_of h4 (w_not (w_lt w_lit (w_len_list (w_arg rfl))))
  rw[List.length_map] at h5
  refine Nat.le_of_not_lt fun q=>?_
  have q':(n:Int)<((ns.length:Nat):Int):=by omega
  first
   |(rw[decide_eq_true q'] at h5;exact absurd h5 (by decide))
   |(simp at h5;omega)
 cases hwl with
 |cons w1 w2=>
   cases w2
   cases w1 with
   |list ho hall=>exact⟨_,_,ns,rfl,rfl,ho,ints_of_wellAll ns _ hall,hlen⟩
theorem post_true(l:OpenLaw)(args:List WData):l.row.toRowW.claim.post args (.bool true) args=true:=
 postW_of (r:=l.row.toRowW) (X:=(true==true))
  (show WShape.has [] (.bool true) .bool=true by first | rfl | decide | simp[WShape.has,WShape.arms,WShape.armsAll])
  (show (WTm.eq .res (.lit (.bool true))).value [] { args:=args,res:=some (.bool true),after:=args }=some (.bool (true==true)) from w_eq_bool (w_res rfl) w_lit) rfl
theorem attach_call {l:OpenLaw}{n:Nat}{q:Program}{loose:List Str}{XP:(Str->Option Value)->Heap->Prop}{YP:World->Heap->Prop}{d:DefRec}
  (hn:l.most=some n) (hdf:d.params.defaults=[])
  (call:∀(w:World) (s₀ s₁:Shared) (mg mb:Str->Option Value) (fa:Addr) (o:Obj) (pm cd doc:Value) (a:Addr) (vs:List Value) (ns:List Int),
    Ground q loose [] XP w s₀ mg mb s₁.heap->YP w s₁.heap->
    s₁.heap.get? fa=some o->o.data=.func (docDef d.name d.params d.body d.scope pm cd doc)->s₁.heap.CodeRec cd d.name->mg d.name=some (.ref fa)->
    s₁.heap.get? a=some { cls:=.type "list",data:=.seq vs.toArray }->IntsAre vs ns->ns.length≤n->s₁.gens=#[]->
    codeAny (model l.prog w) callerA (.call (.ref fa) ⟨[.ref a],[]⟩) (fun r s'=>r=.ok (.ret (.bool true))∧OldK s₁.heap s'.heap∧s'.os=s₁.os∧AllBare s'.gens) s₁) :
  WalkO q loose XP YP l.row.toRowW d [] (fun f vs=>PySem.call f vs):=by
 intro w s₀ s₁ mg mb G Y fa o pm cd doc dV kV ho hd hcd hD hmg hg args vals as hpre hlay hrd hwl hlo
 obtain rfl:dV=.none:=Dflts.none hD hdf
 obtain rfl:kV=.none:=Dflts.noKw hD
 obtain⟨a,vs,ns,rfl,rfl,hobj,hints,hlen⟩:=script_of hn hpre hwl
 refine enter_call (codeAny_mono (call w s₀ s₁ mg mb fa o pm cd doc a vs ns G Y ho (fd_plain hd) hcd hmg hobj hints hlen hg) fun r s' hq=>?_)
 obtain⟨rfl,h2,h3,h4⟩:=hq
 exact⟨.inl ⟨.bool true,.bool true,[],rfl,fun _=>rfl,.bool true,post_true l _,fun _=>⟨List.Pairwise.nil,fun _ hm=>(nomatch hm)⟩⟩,h2,h3,h4⟩
end Att
namespace L2
open PySem PySem.Spec PyProof.Rows
theorem vals_ints:∀{vs:List Value}{ns:List Int},IntsAre vs ns->Vals (ns.map V.int) vs
 |_,_,.nil=>.nil
 |_,_,.cons n t h=>.cons ⟨t,rfl⟩ (vals_ints h)
def Only(H:Hp):Prop:=∀b,H b=none∨∃o xs,H b=some (.frz o (.lst xs))
theorem law_call {P:Program}{w:World}{K:PySem.W.Frag}{mg mb:Str->Option Value}{CX:CXT}{k:Nat}{fa a:Addr}{fd:FuncData}{x:Str}{sp:Sp}{s₁:Shared}{vs:List Value}{ns:List Int}
  (KX:K.In s₁.heap) (hns:s₁.heap.Ns mainGlobals mg) (hb:s₁.heap.Ns builtinsNs mb) (hbb:∀x:Str,x≠"__name__"->mb x=bootBuiltins x) (hlim:s₁.heap.NoLimit) (hg:s₁.gens=#[])
  (ha:s₁.heap.get? a=some { cls:=.type "list",data:=.seq vs.toArray }) (hi:IntsAre vs ns) (hl:ns.length≤sizeLine) (hr:Room k callerA)
  (F:∀base:Heap,K.In base->base.Ns mainGlobals mg->FnOk P w K mg base CX k fa fd [x] sp) (hbind:∀(s:Shared) (u:Value),BindsTo s fd ⟨[u],[]⟩ [(x,u)])
  (hsp:∀H:Hp,Only H->SqL K H a (ns.map V.int)->sp [.ref a] H (fun v _=>v=.bl true) fun _ _ _=>False)
  (hCX:∀H e s',CX [] H s₁ (fun _ _ _=>False) e s'->False) :
  codeAny (model P w) callerA (.call (.ref fa) ⟨[.ref a],[]⟩) (fun r s'=>r=.ok (.ret (.bool true))∧OldK s₁.heap s'.heap∧s'.os=s₁.os∧AllBare s'.gens) s₁:=by
 have rv:=vals_ints hi
 have lenV:=hi.length
 -- from an abstract heap in which nothing but the script may be tracked
 have core:∀ H:Hp,Only H->SqL K H a (ns.map V.int)->HOk P w H s₁.heap->(∀ b,H b≠none->b=a)->(H a≠none->K.lookup a=none)->
   codeAny (model P w) callerA (.call (.ref fa) ⟨[.ref a],[]⟩) (fun r s'=>r=.ok (.ret (.bool true))∧OldK s₁.heap s'.heap∧s'.os=s₁.os∧AllBare s'.gens) s₁:=by
  intro H hO hS hok hA hK
  have base_of:∀{b:Addr}{o:Obj},s₁.heap.get? b=some o->H b=none->(hidT s₁.heap H).get? b=some o:=fun e n=>hidT_get e n
  have noA:∀ {b:Addr}{o:Obj}{es:Array DictEntry}{ep:Nat},s₁.heap.get? b=some o->o.data=.dict es ep->H b=none:=fun {b o es ep} e d=>by
   cases q:H b with
   |none=>rfl
   |some u=>
     have e':b=a:=hA b (by rw[q];simp)
     subst e'
     rw[ha] at e;cases e
     have d':Data.seq vs.toArray _=Data.dict es ep:=d
     cases d'
  have nsK:∀{b:Addr}{m:Str->Option Value},s₁.heap.Ns b m->(hidT s₁.heap H).Ns b m:=fun {b m} ⟨o,es,ep,e,d,r⟩=>⟨o,es,ep,base_of e (noA e d),d,r⟩
  have hKb:K.In (hidT s₁.heap H):=fun b o e=>base_of (KX b o e) (by
   cases q:H b with
   |none=>rfl
   |some u=>
     have e':b=a:=hA b (by rw[q];simp)
     subst e'
     rw[hK (by rw[q];simp)] at e;cases e)
  have hM:Mod K mg (hidT s₁.heap H):=⟨hKb,nsK hns,⟨mb,nsK hb,hbb⟩,let ⟨mc,h1,h2⟩:=hlim;⟨mc,nsK h1,h2⟩⟩
  have e0:Env0 P w K mg (hidT s₁.heap H) callerA [] s₁ H:=⟨rfl,hM,fun b o e=>of_hidT e,Nat.le_of_eq (hidT_size _ _),trivial,fun b hb=>absurd (show b∈([]:List Addr) from hb) (by simp),hok,.of_eq hg⟩
  refine codeAny_mono ((F _ hKb (nsK hns)).run callerA [] s₁ H ⟨[.ref a],[]⟩ [.ref a] [.ref a] _ _ hr e0 (hbind s₁ (.ref a)) (.cons rfl .nil) (hsp H hO hS)) fun r s' h=>?_
  cases r with
  |error e=>exact (hCX H e s' h).elim
  | ok fl=>
    cases fl with
    |next=>exact False.elim h
    |brk=>exact False.elim h
    |cont=>exact False.elim h
    | ret u=>
      obtain⟨v,H',os,bare,un,hok',r',q⟩:=h
      have q':v=.bl true:=q
      subst q'
      obtain rfl:u=Value.bool true:=r'
      refine⟨rfl,OldK.of_keep fun b o e=>?_,os,bare⟩
      cases q:H b with
      |none=>exact un.keep b o e q (by intro z;exact absurd (show b∈([]:List Addr) from z) (by simp)) (by simp)
      | some u=>
        rcases hO b with z | ⟨ob,xs,z⟩
        ·rw[q] at z;cases z
        ·have z2:=un.frzs b ob _ z
         obtain⟨e1,_⟩:=hok b _ z
         obtain⟨e2,_⟩:=hok' b _ z2
         rw[e] at e1;cases e1
         exact e2
 cases hk:K.lookup a with
 |some o=>
   -- the script is one of the module's own objects
   have e:=KX a o hk
   rw[ha] at e
   cases e
   refine core (fun _=>none) (fun _=>.inl rfl) (.inr ⟨_,vs.toArray,_,hk,rfl,rfl,rfl,by rw[List.size_toArray,lenV];exact hl,by simpa using rv⟩) (fun b u z=>by have z':(none:Option HO)=some u:=z;cases z') (fun b z=>absurd rfl z) fun z=>absurd rfl z
 | none=>
   refine core (fun b=>if b=a then some (.frz { cls:=.type "list",data:=.seq vs.toArray } (.lst (ns.map V.int))) else none) (fun b=>?_) (.inl (.inr ⟨{ cls:=.type "list",data:=.seq vs.toArray },if_pos rfl⟩)) (fun b u z=>?_) (fun b z=>?_) fun _=>hk
   ·by_cases hb:b=a
    ·exact .inr ⟨_,_,if_pos hb⟩
    ·exact .inl (if_neg hb)
   ·by_cases hb:b=a
    ·have z':=(if_pos hb).symm.trans z
     cases z'
     subst hb
     exact⟨ha,by rw[List.length_map];exact hl,vs,_,rv,ha⟩
    ·have z':=(if_neg hb).symm.trans z
     cases z'
   ·by_cases hb:b=a
    ·exact hb
    ·exact absurd (if_neg hb) z
open PySem PySem.Spec PyProof.Rows
theorem walk_of {l:PySem.W.OpenLaw}{n k:Nat}{q:Program}{loose:List Str}{XP:(Str->Option Value)->Heap->Prop}{YP:World->Heap->Prop}{d:DefRec}{K:Params->PySem.W.Frag}{CX:World->CXT}{sp:World->Sp}{x:Str}
  (hn:l.most=some n) (hn2:n≤sizeLine) (hdf:d.params.defaults=[]) (hr:Room k callerA)
  (hY:∀(w:World) (h:Heap),YP w h->(K w.params).In h)
  (F:∀ (w:World) (mg:Str->Option Value) (fa:Addr) (h:Heap),(K w.params).In h->h.Ns mainGlobals mg->mg d.name=some (.ref fa)->
    ∃fd:FuncData,(∀(s:Shared) (u:Value),BindsTo s fd ⟨[u],[]⟩ [(x,u)]) ∧
      ∀base:Heap,(K w.params).In base->base.Ns mainGlobals mg->FnOk l.prog w (K w.params) mg base (CX w) k fa fd [x] (sp w))
  (hsp:∀(w:World) (H:Hp) (a:Addr) (ns:List Int),ns.length≤n->Only H->SqL (K w.params) H a (ns.map V.int)->sp w [.ref a] H (fun v _=>v=.bl true) fun _ _ _=>False)
  (hCX:∀(w:World) (H:Hp) (s:Shared) (e:Value) (s':Shared),CX w [] H s (fun _ _ _=>False) e s'->False) :
  PySem.W.WalkO q loose XP YP l.row.toRowW d [] (fun f vs=>PySem.call f vs):=by
 refine Att.attach_call hn hdf fun w s₀ s₁ mg mb fa o pm cd doc a vs ns G Y ho hd hcd hmg hobj hints hlen hg=>?_
 have KX:=hY w _ Y
 obtain⟨fd,hb,hF⟩:=F w mg fa _ KX G.T.g hmg
 exact law_call KX G.T.g G.T.b G.T.builtins G.T.nolimit hg hobj hints (Nat.le_trans hlen hn2) hr hF hb (fun H hO hS=>hsp w H a ns hlen hO hS) fun H e s'=>hCX w H s₁ e s'
open PySem PySem.Spec PyProof.Rows
def inClass(s:Stmt)(j:Nat):Stmt:=match s with
 |.ClassDef _ _ _ body _ _ _ _ _ _ _=>body.getD j (.Pass ⟨0,0,0,0⟩)
 |_=>.Pass ⟨0,0,0,0⟩
def defArgs(s:Stmt):Arguments:=match s with
 |.FunctionDef _ a _ _ _ _ _ _ _ _=>a
 |_=>{ posonlyargs:=[],args:=[],vararg:=none,kwonlyargs:=[],kw_defaults:=[],kwarg:=none,defaults:=[] }
def defBody(s:Stmt):List Stmt:=match s with
 |.FunctionDef _ _ b _ _ _ _ _ _ _=>b
 |_=>[]
def defScope(s:Stmt):Scope:=match s with
 |.FunctionDef _ _ _ _ _ _ sc _ _ _=>sc
 |_=>{ kind:=.function,names:=[],isGenerator:=false,isCoroutine:=false }
abbrev E0:XK:=fun _ _ _=>False
structure Fun(K:PySem.W.Frag)(x qual:Str)(st:Stmt)(f:Addr)(fd:FuncData):Prop where
 ex:∃(oc:Value) (od:Option Addr) (kV doc pm:Value) (an:Option Addr) (cdv ct:Value) (osl:Array (Option Value)),
  fd=PySem.W.fnOf x qual (defArgs st) (defBody st) (defScope st) .none kV doc pm an cdv ct∧K.lookup f=some ⟨oc,od,.func fd,osl⟩∧PySem.W.codeIn K cdv qual=true
 kp:PySem.W.keepIn K (.ref f)=true
section
variable{P:Program}{w:World}{K:PySem.W.Frag}{mg:Str->Option Value}{base:Heap}
theorem Fun.binds{x qual:Str}{st:Stmt}{f:Addr}{fd:FuncData}{ps:List Str}(F:Fun K x qual st f fd)
  (h:∀(kV doc pm:Value) (an:Option Addr) (cdv ct:Value) (us:List Value),us.length=ps.length->bindArgs (PySem.W.fnOf x qual (defArgs st) (defBody st) (defScope st) .none kV doc pm an cdv ct) ⟨us,[]⟩=pure (ps.zip us)):Binds K fd ps []:=by
 obtain⟨oc,od,kV,doc,pm,an,cdv,ct,osl,rfl,lk,hcd⟩:=F.ex
 exact .all (h kV doc pm an cdv ct)
theorem fun_mk{x qual:Str}{st:Stmt}{f:Addr}{oc:Value}{od an:Option Addr}{osl:Array (Option Value)}{kV doc pm cdv ct:Value}(l:K.lookup f=some ⟨oc,od,.func (PySem.W.fnOf x qual (defArgs st) (defBody st) (defScope st) .none kV doc pm an cdv ct),osl⟩)
  (c:PySem.W.codeIn K cdv qual=true) (k:PySem.W.keepIn K (.ref f)=true):Fun K x qual st f (PySem.W.fnOf x qual (defArgs st) (defBody st) (defScope st) .none kV doc pm an cdv ct):=⟨⟨oc,od,kV,doc,pm,an,cdv,ct,osl,rfl,l,c⟩,k⟩
end
theorem iteF{A B:Prop}(h:B):if false=true then A else B:=by
 rw[if_neg Bool.false_ne_true]
 exact h
theorem iteT{A B:Prop}(h:A):if true=true then A else B:=by
 rw[if_pos rfl]
 exact h
def Same(H H':Hp):Prop:=∀b o,H b=some o->H' b=some o
theorem Same.refl(H:Hp):Same H H:=fun _ _ h=>h
mutual
inductive Rep(K:PySem.W.Frag)(H:Hp):V->PyData->Prop
 |non:Rep K H .non .none
 |bl (b:Bool):Rep K H (.bl b) (.bool b)
 |int (i:Int):Rep K H (.int i) (.int i)
 |str (x:Str):Rep K H (.str x) (.str x)
 |lst {a:Addr}{xs:List V}{ds:List PyData}:SqL K H a xs->Reps K H xs ds->Rep K H (.ref a) (.list ds)
 |tup {a:Addr}{xs:List V}{ds:List PyData}:SqT K H a xs->Reps K H xs ds->Rep K H (.ref a) (.tuple ds)
inductive Reps(K:PySem.W.Frag)(H:Hp):List V->List PyData->Prop
 |nil:Reps K H [] []
 |cons {v:V}{d:PyData}{vs:List V}{ds:List PyData}:Rep K H v d->Reps K H vs ds->Reps K H (v::vs) (d::ds)
end
section
variable{X:Cx}{pins:List (Addr×Obj)}{σ:St}{H:Hp}{s:Shared}
mutual
theorem Rep.reads (I:Inv X pins σ H s):∀ {v:V}{d:PyData}{u:Value},Rep X.K H v d->RelV v u->∃ as,Reads s.heap u d as
 |_,_,_,.non,r=>by cases r;exact⟨_,.none⟩
 |_,_,_,.bl b,r=>by cases r;exact⟨_,.bool b⟩
 |_,_,_,.int i,r=>by obtain⟨t,rfl⟩:=r;exact⟨_,.int i t⟩
 |_,_,_,.str x,r=>by obtain⟨t,rfl⟩:=r;exact⟨_,.str x t⟩
 |_,_,_,.lst h hs,r=>by
   cases r
   obtain⟨its,rv,⟨o,n,h1,h2,_,h3⟩,_⟩:=I.list h
   obtain⟨as,ra⟩:=Reps.reads I hs rv
   exact⟨_,.list h1 h2 h3 ra⟩
 |_,_,_,.tup h hs,r=>by
   cases r
   obtain⟨its,rv,⟨o,h1,h2,n,h3⟩,_⟩:=I.tuple h
   obtain⟨as,ra⟩:=Reps.reads I hs rv
   exact⟨_,.tuple h1 h2 h3 ra⟩
theorem Reps.reads (I:Inv X pins σ H s):∀ {vs:List V}{ds:List PyData}{us:List Value},Reps X.K H vs ds->Vals vs us->∃ as,ReadsAll s.heap us ds as
 |_,_,_,.nil,r=>by cases r;exact⟨_,.nil⟩
 | _,_,_,.cons h hs,r=>by
   cases r with
   |cons r1 r2=>
     obtain⟨a1,e1⟩:=Rep.reads I h r1
     obtain⟨a2,e2⟩:=Reps.reads I hs r2
     exact⟨_,.cons e1 e2⟩
end
end
theorem same_new{H:Hp}{p:Addr}(h:H p=none)(o:HO):Same H (upd H p o):=fun b u q=>by rw[upd_ne (ne_of_none q h)];exact q
section
variable{X:Cx}
def xK(K:PySem.W.Frag)(neg:Bool):R2:=fun x y H Q=>∃da db,Rep K H x da∧Rep K H y db∧da.canLay0=true∧db.canLay0=true∧da.depth≤60∧Q (.bl (if neg then !PyData.eqv da db else PyData.eqv da db)) H
theorem Bb(hu:X.A.units+64<cLine):OpR X (compareOp .Eq) (xK X.K false):=by
 intro pins s σ H x y v u Q I rx ry h
 obtain⟨da,db,ha,hb,la,lb,hd,q⟩:=h
 obtain⟨as,ra⟩:=ha.reads I rx
 obtain⟨bs,rb⟩:=hb.reads I ry
 exact PySem.SeqAt.compareEq_reads ra rb la lb (by omega) ⟨.bl _,H,I,rfl,q⟩
theorem Bd(hu:X.A.units+64<cLine):OpR X (compareOp .NotEq) (xK X.K true):=by
 intro pins s σ H x y v u Q I rx ry h
 obtain⟨da,db,ha,hb,la,lb,hd,q⟩:=h
 obtain⟨as,ra⟩:=ha.reads I rx
 obtain⟨bs,rb⟩:=hb.reads I ry
 exact PySem.SeqAt.compareNe_reads ra rb la lb (by omega) ⟨.bl _,H,I,rfl,q⟩
def BK(i j:Int):Prop:=IntMulOk i j
theorem yZ:OpR X (binaryOp .Mult) (rI BK fun i j=>.int (i*j)):=opI fun _ _ _ _ _ _ _ hc q=>mul_int q hc
theorem wK:CallR X (.builtin "isinstance") (fun xs H Q=>∃x t c b,xs=[x,.ty c]∧TyOf X.K H x t∧PySem.W.kitOne X.K t (.type c)=some b∧Q (.bl b) H):=by
 intro pins s σ H xs us Q I r h
 obtain⟨x,t,c,b,rfl,ty,e,q⟩:=h
 obtain⟨u,w',rfl,r1,r2⟩:=vals2 r
 cases r2
 exact isinst_ok I r1 ty e fun tk=>⟨.bl b,H,I.tok _,rfl,q⟩
end
open PySem PySem.Spec PyProof.Rows
structure DefAt(K:PySem.W.Frag)(mg:Str->Option Value)(x:Str)(st:Stmt):Prop where
 ex:∃f fd,Fun K x x st f fd∧mg x=some (.ref f)
theorem wU{K:PySem.W.Frag}{h:Heap}{mg:Str->Option Value}{x:Str}{st:Stmt}{f:Addr}{oc:Value}{od an:Option Addr}{osl:Array (Option Value)}{kV doc pm cdv ct:Value}(X:K.In h)(G:h.Ns mainGlobals mg)
  (a:PySem.W.nsIn K mainGlobals x=some (some (.ref f))) (l:K.lookup f=some ⟨oc,od,.func (PySem.W.fnOf x x (defArgs st) (defBody st) (defScope st) .none kV doc pm an cdv ct),osl⟩) (c:PySem.W.codeIn K cdv x=true) (k:PySem.W.keepIn K (.ref f)=true):DefAt K mg x st:=
 ⟨f,_,fun_mk l c k,PySem.W.mg_of X G a⟩
section
variable{X:Cx}{j k:Nat}{ps:List Str}{sp:Sp}{x:Str}{p pos:Pos}{e:Expr}{es:List Expr}{t:TA}
theorem DX{id:String}{r:List V->Hp->VK->Prop}(hc:CallR X (.builtin id) r)(hm:X.mg x=none)(ha:PA X (e::es) t)(hg:Gl X x:=by rfl)(hv:bootBuiltins x=some (.builtin id):=by decide +kernel)(hn:x≠"__name__":=by decide)(hdb:(x==("__debug__":Str))=false:=by decide)
  (he:starEach (e::es) X.env=(false,eval e X.env)::starEach es X.env:=by rfl) (hpl:(backTo pos (starEach es X.env)).any (·.1)=false:=by rfl) :
  PE X (.Call (.Name x p) (e::es) [] pos) (tCB r t):=pe_callB hc hg hm hv ha hn hdb he hpl
theorem Ck{T:String}(hm:X.mg x=none)(hg:Gl X x:=by rfl)(hv:bootBuiltins x=some (.type T):=by decide +kernel)(hn:x≠"__name__":=by decide)(hdb:(x==("__debug__":Str))=false:=by decide):PE X (.Name x pos) (tC (.ty T)):=
 pe_bltn hg hm hv rfl hn hdb
end
end L2
namespace L2
open PySem PySem.Spec PyProof.Rows
open PySem PySem.Spec PyProof.Rows
end L2
namespace L2
open PySem PySem.Spec PyProof.Rows
def dW (P:Program) (w:World):CXT:=fun outer H s E e s'=>
 ∃(x:Addr) (C a0:Value) (H':Hp) (B:Heap),e=.ref x∧s'.os=s.os∧AllBare s'.gens∧Un (frs outer) [] H H' s.heap s'.heap∧HOk P w H' s'.heap∧Heap.FlyingW B outer x C a0 s'.heap ∧
   (∀b,H' b≠none->∃o,B.get? b=some o)∧(∀b o,s.heap.get? b=some o->b∉frs outer->∃o',B.get? b=some o')∧E C none H'
theorem wY{env:Env}{l:List Env}{L:Addr}(h:env.frame=some L):frs (env::l)=L::frs l:=by
 unfold frs;rw[List.filterMap_cons,h]
theorem zK {fs:List Addr}{H H':Hp}{h0 h h' B:Heap} (u:Un fs [] H H' h0 h) (hB:B.StaysIn h) (hB':B.StaysIn h') (up:h.UpToSlots h')
  (fr:∀b∈fs,∃o,h.get? b=some o∧∀vs,o.data≠.fields vs) (cov:∀b o,h0.get? b=some o->b∉fs->∃o',B.get? b=some o'):Un fs [] H H' h0 h' where
 keep b o e n hb hx:=by
  have h1:=u.keep b o e n hb hx
  obtain⟨o',e'⟩:=cov b o e hb
  have h2:=hB b o' e'
  rw[h1] at h2;cases h2
  exact hB' b o e'
 slot b o e n hb hx:=by
  obtain⟨sl,h1⟩:=u.slot b o e n hb hx
  obtain⟨o1,h2,nf⟩:=fr b hb
  rw[h1] at h2;cases h2
  obtain⟨sl2,h3⟩:=up b _ h1 nf
  exact⟨sl2,h3⟩
 free:=u.free
 there b o e hx:=by
  by_cases hb:b∈fs
  ·obtain⟨o1,h2,nf⟩:=fr b hb
   obtain⟨sl2,h3⟩:=up b _ h2 nf
   exact⟨_,h3⟩
  ·obtain⟨o',e'⟩:=cov b o e hb
   exact⟨o',hB' b o' e'⟩
 tups:=u.tups
 frzs:=u.frzs
 tbls:=u.tbls
theorem w5 {P:Program}{w:World}{H':Hp}{h h' B:Heap} (ok:HOk P w H' h) (hB:B.StaysIn h) (hB':B.StaysIn h') (cov:∀ b,H' b≠none->∃ o,B.get? b=some o):HOk P w H' h':=fun a o e=>
 (ok a o e).stay (fun b u hb hu=>by
   have hn:H' b≠none:=by
    rcases hb with rfl | hb
    ·rw[e];simp
    ·rw[hb];simp
   obtain⟨o',e'⟩:=cov b hn
   have:=hB b o' e'
   rw[hu] at this;cases this
   exact hB' b u e') (fun _ h=>h) (fun _ _ h=>h)
section
variable{P:Program}{w:World}{K:PySem.W.Frag}{mg:Str->Option Value}{base:Heap}{N:List Str}{qual:Str}{scope:Scope}{f:Addr}{cd:Value}{A:Around}{outer:List Env}{s:Shared}{H:Hp}{E:XK}
abbrev gY(P:Program)(w:World)(K:PySem.W.Frag)(mg:Str->Option Value)(base:Heap)(N:List Str)(qual:Str)(scope:Scope)(f:Addr)(cd:Value)(A:Around)(outer:List Env)(s:Shared)(H:Hp)(E:XK):Cx:=
 cxOf (dW P w) P w K mg base N qual scope f cd A outer s H E
theorem aR:Passes (dW P w) (gY P w K mg base N qual scope f cd A outer s H E) E:=by
 intro pins σ H1 s1 e s' I hf
 obtain⟨x,C,a0,H',B,rfl,os,bare,un,hok,fl,ci,cii,q⟩:=hf
 have J:Inv (gY P w K mg base N qual scope f cd A outer s H E) pins σ H' s':=I.call' (ch:=[]) os un hok bare (fun b z=>absurd z (by simp))
 have hfr:(gY P w K mg base N qual scope f cd A outer s H E).A.frames=some ((gY P w K mg base N qual scope f cd A outer s H E).env::outer):=I.ok.frames
 have hfs:∀b∈frs outer,∃o,s'.heap.get? b=some o∧∀vs,o.data≠.fields vs:=fun b hb=>(fl.2.2.1.2.2.mem hb).2
 have hfrm:(gY P w K mg base N qual scope f cd A outer s H E).env.frame=some (gY P w K mg base N qual scope f cd A outer s H E).env.locals:=rfl
 have cov:∀b o,s.heap.get? b=some o->b∉frs outer->∃o',B.get? b=some o':=fun b o e hb=>by
  obtain⟨o1,h1⟩:=I.base.there b o e (show b∉([]:List Addr) by simp)
  refine cii b o1 h1 ?_
  show b∉frs ((gY P w K mg base N qual scope f cd A outer s H E).env::outer)
  rw[wY hfrm]
  intro hm
  rcases List.mem_cons.mp hm with rfl | hm
  ·exact absurd (Heap.lt_size e) (Nat.not_lt.mpr I.ok.above)
  ·exact hb hm
 show wpAny _ _ (leaving _ (.ref x)) _ _ s'
 refine wpAny_leaves_onW hfr rfl fl fun h' fl' up=>?_
 exact⟨x,C,a0,H',B,rfl,J.os,bare,zK J.base fl.1 fl'.1 up hfs cov,w5 hok fl.1 fl'.1 ci,fl',ci,cov,q⟩
end
def pick(js:List Nat)(σ:St):St:=js.map fun j=>(σ[j]?).getD none
theorem wD{fs ex:List Addr}{H H':Hp}{h0 h h':Heap}{C:Addr}(u:Un fs ex H H' h0 h)(hs:Heap.SameBut C h h')(hC:h0.objs.size≤C):Un fs ex H H' h0 h' where
 keep b o e n hb hx:=(hs.2 b (Nat.ne_of_lt (Nat.lt_of_lt_of_le (Heap.lt_size e) hC))).trans (u.keep b o e n hb hx)
 slot b o e n hb hx:=by
  obtain⟨sl,e1⟩:=u.slot b o e n hb hx
  exact⟨sl,(hs.2 b (Nat.ne_of_lt (Nat.lt_of_lt_of_le (Heap.lt_size e) hC))).trans e1⟩
 free:=u.free
 there b o e hx:=by
  obtain⟨o',e1⟩:=u.there b o e hx
  exact⟨o',(hs.2 b (Nat.ne_of_lt (Nat.lt_of_lt_of_le (Heap.lt_size e) hC))).trans e1⟩
 tups:=u.tups
 frzs:=u.frzs
 tbls:=u.tbls
theorem sI {P:Program}{w:World}{H:Hp}{h h':Heap}{C:Addr} (ok:HOk P w H h) (hs:Heap.SameBut C h h') (hC:H C=none):HOk P w H h':=fun b ob e=>
 (ok b ob e).stay (fun c w' hc q=>(hs.2 c (by
   rintro rfl
   rcases hc with hc | hc
   ·rw[←hc,hC] at e;cases e
   ·rw[hC] at hc;cases hc)).trans q) (fun _ q=>q) fun _ _ q=>q
structure DefC(P:Program)(w:World)(K:PySem.W.Frag)(mg:Str->Option Value)(base:Heap)(k:Nat)(x:Str)(ps:List Str)(sp:Sp):Prop where
 ex:∃f fd,FnOk P w K mg base (dW P w) k f fd ps sp∧Binds K fd ps []∧PySem.W.keepIn K (.ref f)=true∧mg x=some (.ref f)
section
variable{P:Program}{w:World}{K:PySem.W.Frag}{mg:Str->Option Value}{base:Heap}{k:Nat}{x:Str}{N ps:List Str}{sp:Sp}{st:Stmt}
theorem Dh {f:Addr}{fd:FuncData} (F:Fun K x x st f fd) (S:FnScope N ps (defScope st)) (len:∀ vs H Q E,sp vs H Q E->vs.length=ps.length)
  (hbody:∀(cdv:Value) (A:Around) (outer:List Env) (s:Shared) (H:Hp) (vs:List V) (Q:VK) (E:XK),Room k (A.deeper (envOfC x (defScope st) s.heap.objs.size f cdv))->sp vs H Q E->
    ∃t,PSs (gY P w K mg base N x (defScope st) f cdv A outer s H E) (defBody st) t∧t { nx:=fun _ H'=>Q .non H',rt:=Q } (start N vs) H):FnOk P w K mg base (dW P w) (k+1) f fd ps sp:=by
 obtain⟨oc,od,kV,doc,pm,an,cdv,ct,osl,rfl,l,c⟩:=F.ex
 exact fn_of l c S len (hbody cdv)
theorem DefAt.okE (D:DefAt K mg x st) (S:FnScope N ps (defScope st)) (hb:∀ (kV doc pm:Value) (an:Option Addr) (cdv ct:Value) (us:List Value),us.length=ps.length->bindArgs (PySem.W.fnOf x x (defArgs st) (defBody st) (defScope st) .none kV doc pm an cdv ct) ⟨us,[]⟩=pure (ps.zip us))
  (len:∀vs H Q E,sp vs H Q E->vs.length=ps.length)
  (hbody:∀(f:Addr) (cdv:Value) (A:Around) (outer:List Env) (s:Shared) (H:Hp) (vs:List V) (Q:VK) (E:XK),Room k (A.deeper (envOfC x (defScope st) s.heap.objs.size f cdv))->sp vs H Q E->
    ∃t,PSs (gY P w K mg base N x (defScope st) f cdv A outer s H E) (defBody st) t∧t { nx:=fun _ H'=>Q .non H',rt:=Q } (start N vs) H):DefC P w K mg base (k+1) x ps sp:=by
 obtain⟨f,fd,F,m⟩:=D.ex
 exact⟨f,fd,Dh F S len (hbody f),F.binds hb,F.kp,m⟩
end
theorem dR{P:Program}{w:World}{X:Cx}:Passes (dW P w) X E0:=fun _ _ _ _ _ _ _ h=>by
 obtain⟨_,_,_,_,_,_,_,_,_,_,_,_,_,q⟩:=h
 exact q.elim
section
variable{X:Cx}{j k:Nat}{ps:List Str}{sp:Sp}{x:Str}{p pos:Pos}{e:Expr}{es:List Expr}{t:TA}{E:XK}
theorem xF(D:DefC X.prog X.w X.K X.mg X.base j x ps sp)(hr:Room k X.A)(hx:Passes (dW X.prog X.w) X E)(ha:PA X (e::es) t)(hjk:j≤k:=by decide)(hg:Gl X x:=by rfl)(hdb:(x==("__debug__":Str))=false:=by decide)
  (he:starEach (e::es) X.env=(false,eval e X.env)::starEach es X.env:=by rfl) (hpl:(backTo pos (starEach es X.env)).any (·.1)=false:=by rfl) :
  PE X (.Call (.Name x p) (e::es) [] pos) (tCall sp [] E t):=by
 obtain⟨f,fd,F,b,kp,m⟩:=D.ex
 exact pe_call F (hr.mono hjk) hg m kp b .nil hx ha hdb he hpl
end
section
variable{κ:Type}[DecidableEq κ]
def putK(kvs:List (κ×V))(k:κ)(v:V):List (κ×V):=
 if (kvs.any fun kv=>decide (kv.1=k))=true then kvs.map (fun kv=>if kv.1=k then (kv.1,v) else kv) else kvs++[(k,v)]
theorem length_putK(kvs:List (κ×V))(k:κ)(v:V):(putK kvs k v).length≤kvs.length+1:=by
 unfold putK
 split
 ·rw[List.length_map];omega
 ·rw[List.length_append,List.length_cons,List.length_nil];omega
theorem KV.any{kvs:List (κ×V)}{vs:List (κ×Value)}(r:KV kvs vs)(k:κ):(kvs.any fun kv=>decide (kv.1=k))=vs.any fun kv=>decide (kv.1=k):=by
 unfold KV at r
 induction r with
 |nil=>rfl
 |cons h t ih=>rw[List.any_cons,List.any_cons,ih,h.1]
theorem KV.repl {kvs:List (κ×V)}{vs:List (κ×Value)} (r:KV kvs vs) (k:κ) {y:V}{u:Value} (ry:RelV y u) :
  KV (kvs.map fun kv=>if kv.1=k then (kv.1,y) else kv) (vs.map fun kv=>if kv.1=k then (kv.1,u) else kv):=by
 unfold KV at r ⊢
 induction r with
 |nil=>exact .nil
 | @cons p q ps qs h t ih=>
   rw[List.map_cons,List.map_cons]
   refine .cons ?_ ih
   obtain⟨h1,h2⟩:=h
   by_cases e:p.1=k
   ·rw[if_pos e,if_pos (h1.symm.trans e)];exact⟨h1,ry⟩
   ·rw[if_neg e,if_neg (fun z=>e (h1.trans z))];exact⟨h1,h2⟩
theorem KV.put{kvs:List (κ×V)}{vs:List (κ×Value)}(r:KV kvs vs)(k:κ){y:V}{u:Value}(ry:RelV y u):KV (putK kvs k y) (stored vs k u):=by
 unfold putK stored
 rw[r.any k]
 by_cases e:(vs.any fun kv=>decide (kv.1=k))=true
 ·rw[if_pos e,if_pos e];exact r.repl k ry
 ·rw[if_neg e,if_neg e];exact Paired.snoc r ⟨rfl,ry⟩
end
theorem kV_is{P:Program}{w:World}{k:Key}{u:Value}(r:RelV (kV k) u):(mixKind P w).is k u=true:=by
 cases k with
 |inl i=>obtain⟨t,e⟩:=(show ∃t,u=Value.int i t from r);subst e;exact mixKind_int P w i t
 |inr x=>obtain⟨t,e⟩:=(show ∃t,u=Value.str x t from r);subst e;exact mixKind_str P w x t
section
variable{P:Program}{w:World}{H:Hp}{h:Heap}{a:Addr}
theorem rd_of{u:HO}(ok:HOk P w H h)(e:Rd H a u):ObjOk P w H h a u:=e.ok ok
theorem dk_rd{kvs:List (Key×V)}(ok:HOk P w H h)(e:Rd H a (.dK kvs)):kvs.length≤sizeLine∧(a==sysModules)=false∧∃vs,KV kvs vs∧h.DictOf (mixKind P w) a vs:=
 show ObjOk P w H h a (.dK kvs) from rd_of ok e
theorem dk_of{kvs:List (Key×V)}(ok:HOk P w H h)(e:H a=some (.dK kvs)):kvs.length≤sizeLine∧(a==sysModules)=false∧∃vs,KV kvs vs∧h.DictOf (mixKind P w) a vs:=dk_rd ok (.inl e)
end
section
variable{X:Cx}{pins:List (Addr×Obj)}{σ:St}{H:Hp}{s:Shared}{a:Addr}{y v:V}{u r:Value}{o:Option V}{A:Around}{E:Value->Shared->Prop}
theorem Inv.big(I:Inv X pins σ H s):sysModules<s.heap.objs.size:=by
 have h:mainGlobals<s.heap.objs.size:=(I.mod.glob.keeps I.bk).lt
 exact Nat.lt_trans (by decide) h
theorem d_write{h':Heap}{t':Nat}{ob:HO}(I:Inv X pins σ H s)(mu:Mut (H a))(hs:Heap.SameBut a s.heap h')(he:∃q,h'.get? a=some q)(new:ObjOk X.prog X.w (upd H a ob) h' a ob) :
  Inv X pins σ (upd H a ob) { s with heap:=h',toks:=t' }:=
 I.write (x:=a) (e:=a) mu (.inl rfl) (fun b q hb z=>(hs.2 b hb).trans z) he new
theorem dk_new{P:Program}{w:World}{H':Hp}{h':Heap}{kvs:List (Key×V)}{vs:List (Key×Value)}(z:kvs.length≤sizeLine)(hd:(a==sysModules)=false)(rel:KV kvs vs)(dd:h'.DictOf (mixKind P w) a vs) :
  ObjOk P w H' h' a (.dK kvs):=⟨z,hd,vs,rel,dd⟩
end
theorem dk_empty{P:Program}{w:World}{H:Hp}(h:Heap)(hb:sysModules<h.objs.size):ObjOk P w H (h.push { cls:=.type "dict",data:=.dict #[] }) h.objs.size (.dK []):=
 ⟨Nat.zero_le _,beq_eq_false_iff_ne.mpr (Ne.symm (Nat.ne_of_lt hb)),[],.nil,Heap.DictOf.new h⟩
def tDNewK:TE:=fun _ H Q=>∀p,H p=none->Q (.ref p) (upd H p (.dK []))
section
variable{X:Cx}{pos:Pos}
theorem pe_dnewK:PE X (.Dict [] [] pos) tDNewK:=fun pins s σ H Q I h=>
 wpAny_Dict_empty ⟨.ref s.heap.objs.size,_,I.laid (a:=s.heap.objs.size) (o:=.dK []) (t':=s.toks) (fun _ _ q=>Heap.get?_push_of_some _ q) (Nat.le_refl _) (dk_empty s.heap I.big),rfl,h _ (I.hok.fresh (Nat.le_refl _))⟩
end
def tPairs:List (TE×TE)->St->Hp->(List (V×V)->Hp->Prop)->Prop
 |[],_,H,Q=>Q [] H
 |(tk,tv)::r,σ,H,Q=>tk σ H fun x H1=>tv σ H1 fun y H2=>tPairs r σ H2 fun ps H3=>Q ((x,y)::ps) H3
abbrev VV:List (V×V)->List (Value×Value)->Prop:=Paired fun p q=>RelV p.1 q.1∧RelV p.2 q.2
def PPs (X:Cx) (pos:Pos) (keys:List (Option Expr)) (values:List Expr) (trs:List (TE×TE)):Prop:=
 ∀(pins:List (Addr×Obj)) (s:Shared) (σ:St) (H:Hp) (Q:List (V×V)->Hp->Prop),Inv X pins σ H s->tPairs trs σ H Q->
   wpAny (model X.prog X.w) X.A (evalPairs (pairTrees keys values X.env pos)) (fun vs s'=>∃ps H',Inv X pins σ H' s'∧VV ps vs∧Q ps H') X.xe s
theorem pps_nil{X:Cx}{pos:Pos}:PPs X pos [] [] []:=fun pins s σ H Q I h=>pairTrees_nil_walk ⟨[],H,I,.nil,h⟩
theorem pps_cons{X:Cx}{pos:Pos}{k v:Expr}{ks:List (Option Expr)}{vs:List Expr}{tk tv:TE}{trs:List (TE×TE)}(hk:PE X k tk)(hv:PE X v tv)(hr:PPs X pos ks vs trs) :
  PPs X pos (some k::ks) (v::vs) ((tk,tv)::trs):=fun pins s σ H Q I h=>
 pairTrees_cons_walk (thn (hk pins s σ H _ I h) fun u s1 ⟨x,H1,I1,rx,q1⟩=>thn (hv pins s1 σ H1 _ I1 q1) fun w2 s2 ⟨y,H2,I2,ry,q2⟩=>
  thn (hr pins s2 σ H2 _ I2 q2) fun ws s3 ⟨ps,H3,I3,rel,q3⟩=>⟨(x,y)::ps,H3,I3,.cons ⟨rx,ry⟩ rel,q3⟩)
def mergeK(kvs more:List (Key×V)):List (Key×V):=more.foldl (fun acc kv=>putK acc kv.1 kv.2) kvs
theorem KV.merge:∀ {more:List (Key×V)}{rs:List (Key×Value)}{kvs:List (Key×V)}{vs:List (Key×Value)},KV more rs->KV kvs vs->KV (mergeK kvs more) (merged vs rs):=by
 intro more rs kvs vs r
 unfold KV at r
 induction r generalizing kvs vs with
 |nil=>intro q;exact q
 | @cons p q ps qs h t ih=>
   intro r0
   have e:KV (putK kvs p.1 p.2) (stored vs q.1 q.2):=by
    have:=r0.put p.1 h.2
    rw[←h.1];exact this
   exact ih e
theorem length_mergeK:∀ (more kvs:List (Key×V)),(mergeK kvs more).length≤kvs.length + more.length
 |[],kvs=>by show kvs.length≤kvs.length+0;omega
 |p::r,kvs=>by
   have h1:=length_mergeK r (putK kvs p.1 p.2)
   have h2:=length_putK kvs p.1 p.2
   show (mergeK (putK kvs p.1 p.2) r).length≤_
   rw[List.length_cons];omega
theorem carries_of {P:Program}{w:World}:∀ {kvs:List (Key×V)}{ws:List (Value×Value)},VV (kvs.map fun kv=>(kV kv.1,kv.2)) ws->∃ rs,Carries (mixKind P w) ws rs∧KV kvs rs
 |[],_,r=>by rw[List.map_nil] at r;cases r;exact⟨[],True.intro,.nil⟩
 | p::kvs,_,r=>by
   rw[List.map_cons] at r
   cases r with
   | @cons a b as bs h t=>
     obtain⟨rs,c,q⟩:=carries_of (P:=P) (w:=w) t
     obtain⟨b1,b2⟩:=b
     exact⟨(p.1,b2)::rs,⟨kV_is h.1,rfl,c⟩,.cons ⟨rfl,h.2⟩ q⟩
def tDisp(trs:List (TE×TE)):TE:=fun σ H Q=>∀p,H p=none->tPairs trs σ (upd H p (.dK [])) fun ps H2=>H2 p=some (.dK [])∧∃kvs:List (Key×V),ps=kvs.map (fun kv=>(kV kv.1,kv.2))∧kvs.length≤15∧Q (.ref p) (upd H2 p (.dK (mergeK [] kvs)))
theorem pe_disp{X:Cx}{pos:Pos}{keys:List (Option Expr)}{values:List Expr}{trs:List (TE×TE)}(h:PPs X pos keys values trs)(hall:keys.all (·.isSome)=true)(hl:keys.length=values.length)(h0:keys≠[])
  (h15:keys.length≤15):PE X (.Dict keys values pos) (tDisp trs):=by
 intro pins s σ H Q I q
 have hn:=I.hok.fresh (Nat.le_refl s.heap.objs.size)
 have I1:=I.laid (a:=s.heap.objs.size) (o:=.dK []) (h':=s.heap.push { cls:=.type "dict",data:=.dict #[] }) (t':=s.toks) (fun _ _ q=>Heap.get?_push_of_some _ q) (Nat.le_refl _) (dk_empty s.heap I.big)
 refine wpAny_Dict_walk (knd:=mixKind X.prog X.w) hall hl h0 h15 (thn (h pins _ σ _ _ I1 (q _ hn)) fun ws s2 ⟨ps,H2,I2,rel,e,kvs,ep,lk,q2⟩=>?_)
 subst ep
 obtain⟨rs,c,rk⟩:=carries_of (P:=X.prog) (w:=X.w) rel
 obtain⟨z,hd,vs0,r0,dd⟩:=dk_of I2.hok e
 cases r0
 refine⟨rs,c,dd,fun h' dd' hs=>⟨.ref s.heap.objs.size,_,?_,rfl,q2⟩⟩
 have hz:(mergeK [] kvs).length≤sizeLine:=by
  have h1:=length_mergeK kvs []
  rw[List.length_nil] at h1
  rw[sizeLine_eq];omega
 have he:∃q,h'.get? s.heap.objs.size=some q:=let ⟨q,_,_,hq,_⟩:=dd';⟨q,hq⟩
 exact d_write I2 (by rw[e];exact True.intro) hs he (dk_new hz hd (rk.merge .nil) dd')
end L2
namespace HT
open PySem PySem.Spec PyProof.Rows PySem.W
section
variable{prog:Program}{w:World}{A:Around}{E:Value->Shared->Prop}{s:Shared}
theorem wL {t b:Addr}{vs ws:List Value}{Q:Value->Shared->Prop} (ht:IsTup s.heap t vs.toArray) (hb:IsTup s.heap b ws.toArray) (hv:vs=[])
  (h1:Q (.ref b) s):wpAny (model prog w) A (binaryOp .Add (.ref t) (.ref b)) Q E s:=by
 obtain⟨⟨cls,dd,data,sl⟩,ho,hc,n,hd⟩:=id ht
 obtain⟨⟨cls2,dd2,data2,sl2⟩,ho2,hc2,n2,hd2⟩:=id hb
 simp only at hc hd hc2 hd2
 subst hc hd hc2 hd2
 exact concat_meets ⟨_,ho,rfl⟩ ⟨_,ho2,rfl⟩ noFill_tuple_add seq_tuple_add PySem.F.slot_tuple_add PySem.F.entry_tuple_add (PySem.F.args_tuple_add_2 _ _)
   (tuple_addW0 t b vs.toArray ws.toArray n n2 dd dd2 sl sl2 (by simp[hv])) ⟨ho,ho2,h1⟩
theorem mR{t sl:Addr}{items:Array Value}{vl vu:Value}{lo hi:Option Int}{Q:Value->Shared->Prop}(ht:IsTup s.heap t items)(hs:s.heap.IsSliceOf sl vl vu .none)(pl:IsPart vl lo)(pu:IsPart vu hi)
  (hw:sIx items.size 0 lo=0∧sIx items.size items.size hi=items.size) (h:Q (.ref t) s):wpAny (model prog w) A (getItem (.ref t) (.ref sl)) Q E s:=by
 obtain⟨os,hos,hcs,hds⟩:=id hs
 obtain⟨ot,hot,hct,nt,hdt⟩:=id ht
 have hTs:s.TypeIs (.ref sl) "slice":=⟨os,hos,hcs⟩
 have hTt:s.TypeIs (.ref t) "tuple":=⟨ot,hot,hct⟩
 unfold getItem
 try with_reducible refine wpAny_holding ?_
 first | refine wpAny_bind (wpAny_pure ?_) | skip
 refine wpAny_bind (wpAny_sequenceKey ht.typeIs (by decide) ?_)
 refine wpAny_bind (wpAny_callSpecial?_slot (name:=Str.ofString "__getitem__") ht.typeIs PyProof.Rows.slot_tuple_getitem
  (wpAny_call_entry PyProof.Rows.slot_tuple_getitem ht.typeIs entry_tuple_getitem ?_ (args_tuple_getitem _ _)))
 show wpAny _ _ (Builtin.Tuple.tupleItemsOf (.ref t)>>=_) _ _ s
 refine wpAny_bind (tupleItemsOf_ ht ?_)
 refine wpAny_bind (wpAny_typeOf hTs ?_)
 rw[if_pos (by decide)]
 refine wpAny_bind (sliceApplied_gen hs pl pu ?_)
 have hno:((((sIx items.size 0 lo:Nat):Int)==0&&(1:Int)==1&&(sIx items.size items.size hi-sIx items.size 0 lo)==items.size)=true):=by
  rw[hw.1,hw.2];simp
 show wpAny _ _ (if (((sIx items.size 0 lo:Nat):Int)==0&&(1:Int)==1&&(sIx items.size items.size hi-sIx items.size 0 lo)==items.size)=true then _ else _) _ _ s
 rw[if_pos hno]
 unfold Builtin.Tuple.tupleIsExact
 refine wpAny_bind ?_
 refine wpAny_bind (wpAny_typeOf hTt (wpAny_pure ?_))
 rw[if_pos (by decide)]
 exact wpAny_bind (wpAny_rule (wpAny_pure ⟨_,rfl,wpAny_pure h⟩))
end
end HT
namespace L2
open PySem PySem.Spec PyProof.Rows
section
variable{X:Cx}
theorem wQ{xs:List V}{lo hi:Option Int}(h:HT.sIx xs.length 0 lo=0∧HT.sIx xs.length xs.length hi=xs.length):cutV xs lo hi=xs:=by
 unfold cutV
 rw[h.1,h.2]
 simp
def Eb:V->Option Int->Option Int->Hp->VK->Prop:=fun x lo hi H Q=>∃a xs,x=.ref a∧H a=some (.tup xs)∧∀p H',Same H H'->H' p=some (.tup (cutV xs lo hi))->Q (.ref p) H'
theorem zF:SlR X Eb:=by
 intro pins s σ H x v vl vu lo hi sl Q I rx hs pl pu h
 obtain⟨a,xs,rfl,hx,q⟩:=h
 by_cases hw:HT.sIx xs.length 0 lo=0∧HT.sIx xs.length xs.length hi=xs.length
 ·cases rx
  obtain⟨its,r,ht,hz⟩:=I.tuple (SqT.of hx)
  have hlen:its.toArray.size=xs.length:=by rw[List.size_toArray];exact r.length.symm
  refine⟨"tuple",_,PyProof.Rows.slot_tuple_getitem.lookup,ht.typeIs,?_⟩
  refine HT.mR ht hs pl pu (by rw[hlen];exact hw) ⟨.ref a,H,I,rfl,q a H (Same.refl _) (by rw[wQ hw];exact hx)⟩
 ·exact sl_tup (X:=X) pins s σ H _ v vl vu lo hi sl Q I rx hs pl pu ⟨a,xs,rfl,SqT.of hx,hw,fun p hp=>q p _ (same_new hp _) upd_same⟩
def Cm:R2:=fun x y H Q=>∃a b xs ys,x=.ref a∧y=.ref b∧H a=some (.tup xs)∧H b=some (.tup ys)∧xs.length+ys.length≤sizeLine∧∀p H',Same H H'->H' p=some (.tup (xs++ys))->Q (.ref p) H'
theorem yV:OpR X (binaryOp .Add) Cm:=by
 intro pins s σ H x y v u Q I rx ry h
 obtain⟨a,b,xs,ys,rfl,rfl,ha,hb,hz,q⟩:=h
 by_cases hx:xs=[]
 ·cases rx
  cases ry
  obtain⟨its,r1,p1,_⟩:=I.tuple (SqT.of ha)
  obtain⟨its2,r2,p2,_⟩:=I.tuple (SqT.of hb)
  exact HT.wL p1 p2 (r1.nil_iff.mpr hx) ⟨.ref b,H,I,rfl,q b H (Same.refl _) (by rw[hx,List.nil_append];exact hb)⟩
 ·exact op_catT (X:=X) pins s σ H _ _ v u Q I rx ry ⟨a,b,xs,ys,rfl,rfl,SqT.of ha,SqT.of hb,hx,hz,fun e=>q a H (Same.refl _) (by rw[e,List.append_nil];exact ha),fun _ p hp=>q p _ (same_new hp _) upd_same⟩
end
mutual
inductive RepF(H:Hp):Bool->V->PyData->Prop
 |non {f:Bool}:RepF H f .non .none
 |bl {f:Bool} (b:Bool):RepF H f (.bl b) (.bool b)
 |int {f:Bool} (i:Int):RepF H f (.int i) (.int i)
 |str {f:Bool} (x:Str):RepF H f (.str x) (.str x)
 |lst {f:Bool}{a:Addr}{xs:List V}{ds:List PyData}:H a=some (.lst xs)->RepsF H f xs ds->RepF H f (.ref a) (.list ds)
 |tup {f:Bool}{a:Addr}{xs:List V}{ds:List PyData}:H a=some (.tup xs)->RepsF H f xs ds->RepF H f (.ref a) (.tuple ds)
 |d0 {a:Addr}:H a=some (.dK [])->RepF H false (.ref a) (.dict [])
 |d1 {a:Addr}{i j:Int}:H a=some (.dK [(.inl i,.int j)])->RepF H false (.ref a) (.dict [(.int i,.int j)])
inductive RepsF(H:Hp):Bool->List V->List PyData->Prop
 |nil {f:Bool}:RepsF H f [] []
 |cons {f:Bool}{v:V}{d:PyData}{vs:List V}{ds:List PyData}:RepF H f v d->RepsF H f vs ds->RepsF H f (v::vs) (d::ds)
end
section
variable{X:Cx}{pins:List (Addr×Obj)}{σ:St}{H:Hp}{s:Shared}
theorem yN {P:Program}{w:World}{i:Int}{v:Value} (h:(mixKind P w).is (.inl i) v=true):∃ t,v=.int i t:=by
 cases v with
 | int a t=>
   have e:decide (i=a)=true∨decide (a=i)=true∨(a==i)=true∨(i==a)=true:=by
    first | exact .inl h | exact .inr (.inl h) | exact .inr (.inr (.inl h)) | exact .inr (.inr (.inr h))
   have:a=i:=by rcases e with e | e | e | e<;>simp at e<;>omega
   exact⟨t,by rw[this]⟩
 |_=>first | cases h | (simp[mixKind] at h)
mutual
theorem RepF.reads (I:Inv X pins σ H s):∀ {f:Bool}{v:V}{d:PyData}{u:Value},RepF H f v d->RelV v u->∃ as,Reads s.heap u d as∧((∃ l,d=.dict l)->sysModules∉as)
 |_,_,_,_,.non,r=>by cases r;exact⟨_,.none,fun _=>by simp⟩
 |_,_,_,_,.bl b,r=>by cases r;exact⟨_,.bool b,fun _=>by simp⟩
 |_,_,_,_,.int i,r=>by obtain⟨t,rfl⟩:=r;exact⟨_,.int i t,fun _=>by simp⟩
 |_,_,_,_,.str x,r=>by obtain⟨t,rfl⟩:=r;exact⟨_,.str x t,fun _=>by simp⟩
 |_,_,_,_,.lst h hs,r=>by
   cases r
   obtain⟨its,rv,⟨o,n,h1,h2,_,h3⟩,_⟩:=I.list (SqL.of h)
   obtain⟨as,ra⟩:=RepsF.reads I hs rv
   exact⟨_,.list h1 h2 h3 ra,fun z=>nomatch z⟩
 |_,_,_,_,.tup h hs,r=>by
   cases r
   obtain⟨its,rv,⟨o,h1,h2,n,h3⟩,_⟩:=I.tuple (SqT.of h)
   obtain⟨as,ra⟩:=RepsF.reads I hs rv
   exact⟨_,.tuple h1 h2 h3 ra,fun z=>nomatch z⟩
 | _,_,_,_,.d0 (a:=a) h,r=>by
   cases r
   obtain⟨_,hd,vs,r0,⟨o,es,ep,h1,h2,h3,h4,h5,h6⟩⟩:([]:List (Key×V)).length≤sizeLine∧(a==sysModules)=false∧∃vs,KV [] vs∧s.heap.DictOf (mixKind X.prog X.w) a vs:=I.hok a _ h
   cases r0
   have he:es.toList=[]:=by cases hx:es.toList with
    |nil=>rfl
    |cons e es'=>rw[hx] at h5;cases h5
   refine⟨_,.dict (kvs:=[]) h1 h2.1 h3 (by rw[he];exact .nil) (by rw[he];exact .nil),fun _=>?_⟩
   simp only[List.append_nil,List.mem_singleton]
   exact fun z=>(beq_eq_false_iff_ne.mp hd) z.symm
 | _,_,_,_,.d1 (a:=a) (i:=i) (j:=j) h,r=>by
   cases r
   obtain⟨_,hd,vs,r0,⟨o,es,ep,h1,h2,h3,h4,h5,h6⟩⟩:([(Sum.inl i,V.int j)]:List (Key×V)).length≤sizeLine∧(a==sysModules)=false∧∃vs,KV [(Sum.inl i,V.int j)] vs∧s.heap.DictOf (mixKind X.prog X.w) a vs:=I.hok a _ h
   cases r0 with
   | @cons p q ps qs hq t=>
     cases t
     obtain⟨e1,tv,e2⟩:=hq
     obtain⟨q1,q2⟩:=q
     dsimp only at e1 e2
     subst e1 e2
     generalize hx:es.toList=el at h5
     cases h5 with
     |cons g1 g2 g3=>
       cases g3
       rename_i e
       obtain⟨tk,ek⟩:=yN g1
       dsimp only at g2
       refine⟨_,.dict (kvs:=[(.int i,.int j)]) h1 h2.1 h3 (as:=[]++[]) (bs:=[]++[]) (by rw[hx];exact .cons (by show Reads _ e.key _ _;rw[ek];exact .int i tk) .nil) (by rw[hx];exact .cons (by show Reads _ e.val _ _;rw[g2];exact .int j tv) .nil),fun _=>?_⟩
       simp only[List.append_nil,List.mem_singleton]
       exact fun z=>(beq_eq_false_iff_ne.mp hd) z.symm
theorem RepsF.reads (I:Inv X pins σ H s):∀ {f:Bool}{vs:List V}{ds:List PyData}{us:List Value},RepsF H f vs ds->Vals vs us->∃ as,ReadsAll s.heap us ds as
 |_,_,_,_,.nil,r=>by cases r;exact⟨_,.nil⟩
 | _,_,_,_,.cons h hs,r=>by
   cases r with
   |cons r1 r2=>
     obtain⟨a1,e1,_⟩:=RepF.reads I h r1
     obtain⟨a2,e2⟩:=RepsF.reads I hs r2
     exact⟨_,.cons e1 e2⟩
end
theorem qp{a:Addr}{d:PyData}{as bs:List Addr}{n:Nat}(r:Reads s.heap (.ref a) d as)(hd:d.depth=n+1)(hb:ReadAtMost s.heap n bs):a∉bs∧ReadAtMost s.heap d.depth (a::bs):=
 ⟨not_mem_of_deeper r (by omega) hb,hd ▸ ReadAtMost.cons r (by omega) hb⟩
mutual
theorem RepF.k (I:Inv X pins σ H s):∀ {f:Bool}{v:V}{d:PyData}{u:Value},RepF H f v d->RelV v u->d.showable=true->d.shown.length≤sizeLine->∃ bs,ReadAtMost s.heap d.depth bs∧ReprK X.prog X.w bs s.heap d.depth u d.shown
 |_,_,_,_,.non,r,hs,hz=>by obtain⟨as,ra,_⟩:=RepF.reads (f:=true) I .non r;exact ReprK.of_reads ra hs (fun z=>by simp[PyData.hasDict] at z) hz
 |_,_,_,_,.bl b,r,hs,hz=>by obtain⟨as,ra,_⟩:=RepF.reads (f:=true) I (.bl b) r;exact ReprK.of_reads ra hs (fun z=>by simp[PyData.hasDict] at z) hz
 |_,_,_,_,.int i,r,hs,hz=>by obtain⟨as,ra,_⟩:=RepF.reads (f:=true) I (.int i) r;exact ReprK.of_reads ra hs (fun z=>by simp[PyData.hasDict] at z) hz
 |_,_,_,_,.str x,r,hs,hz=>by obtain⟨as,ra,_⟩:=RepF.reads (f:=true) I (.str x) r;exact ReprK.of_reads ra hs (fun z=>by simp[PyData.hasDict] at z) hz
 |_,_,_,_,.d0 h,r,hs,hz=>by obtain⟨as,ra,n⟩:=RepF.reads I (.d0 h) r;exact ReprK.of_reads ra hs (fun _=>n ⟨_,rfl⟩) hz
 |_,_,_,_,.d1 h,r,hs,hz=>by obtain⟨as,ra,n⟩:=RepF.reads I (.d1 h) r;exact ReprK.of_reads ra hs (fun _=>n ⟨_,rfl⟩) hz
 | _,_,_,_,.lst (ds:=xs) h hs,r,hs',hz=>by
   cases r
   obtain⟨its,rv,⟨o,n,h1,h2,_,h3⟩,_⟩:=I.list (SqL.of h)
   obtain⟨as,ra⟩:=RepsF.reads I hs rv
   have hz':(listText (PyData.shownAll xs)).length≤sizeLine:=by simpa only[PyData.shown] using hz
   obtain⟨bs,hb,hk⟩:=RepsF.k I hs rv (by simpa only[PyData.showable] using hs') fun t ht=>Nat.le_trans (listText_mem_le ht) hz'
   obtain⟨hn,hc⟩:=qp (.list h1 h2 h3 ra) (by simp only[PyData.depth]) hb
   refine⟨_,hc,?_⟩
   simp only[PyData.depth,PyData.shown]
   cases its with
   |nil=>
     cases ra
     simp only[PyData.shownAll,listText_nil]
     exact ReprK.listEmpty h1 h2 h3
   |cons x l=>exact ReprK.list h1 h2 h3 hn (by simpa using hk.length_eq) fun i y e=>hk.item i y (by simpa using e)
 |_,_,_,_,.tup (ds:=xs) h hs,r,hs',hz=>by
   cases r
   obtain⟨its,rv,⟨o,h1,h2,n,h3⟩,_⟩:=I.tuple (SqT.of h)
   obtain⟨as,ra⟩:=RepsF.reads I hs rv
   have hz':(tupleText (PyData.shownAll xs)).length≤sizeLine:=by simpa only[PyData.shown] using hz
   obtain⟨bs,hb,hk⟩:=RepsF.k I hs rv (by simpa only[PyData.showable] using hs') fun t ht=>Nat.le_trans (tupleText_mem_le ht) hz'
   obtain⟨hn,hc⟩:=qp (.tuple h1 h2 h3 ra) (by simp only[PyData.depth]) hb
   refine⟨_,hc,?_⟩
   simp only[PyData.depth,PyData.shown]
   exact ReprK.tuple h1 h2 h3 hn hk
theorem RepsF.k (I:Inv X pins σ H s):∀ {f:Bool}{vs:List V}{ds:List PyData}{us:List Value},RepsF H f vs ds->Vals vs us->PyData.showableAll ds=true->(∀ t∈PyData.shownAll ds,t.length≤sizeLine)->∃ bs,ReadAtMost s.heap (PyData.depthAll ds) bs∧ReprAllK X.prog X.w bs s.heap (PyData.depthAll ds) us (PyData.shownAll ds)
 |_,_,_,_,.nil,r,_,_=>by cases r;exact⟨[],(fun _ h=>nomatch h),by simp only[PyData.shownAll];exact .nil⟩
 | _,_,_,_,.cons (d:=d) (ds:=ds) h hs,r,hs',hz=>by
   cases r with
   |cons r1 r2=>
     have hh:d.showable=true∧PyData.showableAll ds=true:=by simpa[PyData.showableAll] using hs'
     obtain⟨b1,q1,k1⟩:=RepF.k I h r1 hh.1 (hz _ (by simp only[PyData.shownAll];exact .head _))
     obtain⟨b2,q2,k2⟩:=RepsF.k I hs r2 hh.2 fun t ht=>hz t (by simp only[PyData.shownAll];exact .tail _ ht)
     simp only[PyData.depthAll,PyData.shownAll]
     exact⟨b1++b2,(q1.mono (Nat.le_max_left _ _)).append (q2.mono (Nat.le_max_right _ _)),.cons ((k1.more fun b hb=>List.mem_append_left _ hb).level_le (Nat.le_max_left _ _)) (k2.more_le (fun b hb=>List.mem_append_right _ hb) (Nat.le_max_right _ _))⟩
end
end
mutual
/-- the same,away from a -/
theorem RepF.toRep{K:PySem.W.Frag}{H:Hp}:∀{v:V}{d:PyData},RepF H true v d->Rep K H v d
 |_,_,.non=>.non
 |_,_,.bl b=>.bl b
 |_,_,.int i=>.int i
 |_,_,.str x=>.str x
 |_,_,.lst h hs=>.lst (SqL.of h) (RepsF.toReps hs)
 |_,_,.tup h hs=>.tup (SqT.of h) (RepsF.toReps hs)
theorem RepsF.toReps{K:PySem.W.Frag}{H:Hp}:∀{vs:List V}{ds:List PyData},RepsF H true vs ds->Reps K H vs ds
 |_,_,.nil=>.nil
 |_,_,.cons h hs=>.cons (RepF.toRep h) (RepsF.toReps hs)
end
mutual
def cH:PyData->Nat
 |.none | .bool _=>5
 |.int _=>1921
 |.str x=>(reprText x).length
 |.list xs | .tuple xs=>iI xs+3
 |.dict _=>8000
def iI:List PyData->Nat
 |[]=>0
 |x::xs=>cH x+2+iI xs
end
theorem gA:∀xs:List PyData,(PyData.shownAll xs).length=xs.length
 |[]=>by simp only[PyData.shownAll,List.length_nil]
 |x::xs=>by simp only[PyData.shownAll,List.length_cons,gA xs]
mutual
theorem o5 {H:Hp}:∀ {f:Bool}{v:V}{d:PyData},RepF H f v d->d.showable=true->d.shown.length≤cH d
 |_,_,_,.non,_=>by simp only[PyData.shown,cH];decide +kernel
 |_,_,_,.bl b,_=>by cases b<;>simp only[PyData.shown,cH]<;>decide +kernel
 |_,_,_,.int i,h=>by
   have h':i.natAbs.log2<1920:=by simpa[PyData.showable] using h
   simp only[PyData.shown,cH]
   exact int_text_len_1921 h'
 |_,_,_,.str x,_=>by simp only[PyData.shown,cH];exact Nat.le_refl _
 |_,_,_,.lst (ds:=xs) _ hs,h=>by
   have:=gw hs (by simpa only[PyData.showable] using h)
   have l:=listText_len_le (PyData.shownAll xs)
   rw[gA] at l
   simp only[PyData.shown,cH]
   omega
 |_,_,_,.tup (ds:=xs) _ hs,h=>by
   have:=gw hs (by simpa only[PyData.showable] using h)
   have l:=tupleText_len_le (PyData.shownAll xs)
   rw[gA] at l
   simp only[PyData.shown,cH]
   omega
 |_,_,_,.d0 _,_=>by simp only[PyData.shown,PyData.shownKv,cH];decide +kernel
 |_,_,_,.d1 (i:=i) (j:=j) _,h=>by
   have h':i.natAbs.log2<1920∧j.natAbs.log2<1920:=by simpa[PyData.showable,PyData.showableKv] using h
   have l1:=int_text_len_1921 h'.1
   have l2:=int_text_len_1921 h'.2
   have l:=dictText_len_le (PyData.shownKv [(.int i,.int j)])
   simp only[PyData.shown,cH]
   refine Nat.le_trans l ?_
   simp only[PyData.shownKv,PyData.shown,List.map_cons,List.map_nil,List.sum_cons,List.sum_nil,List.length_cons,List.length_nil,strLen_append]
   have l3:(Str.ofString ": ").length=2:=by decide +kernel
   have l3':(": ":Str).length=2:=by decide +kernel
   omega
theorem gw {H:Hp}:∀ {f:Bool}{vs:List V}{xs:List PyData},RepsF H f vs xs->PyData.showableAll xs=true->((PyData.shownAll xs).map (·.length)).sum + 2 * xs.length≤iI xs
 |_,_,_,.nil,_=>by simp only[PyData.shownAll,List.map_nil,List.sum_nil,List.length_nil,iI];omega
 |_,_,_,.cons (d:=x) (ds:=xs) hx hs,h=>by
   have h':x.showable=true∧PyData.showableAll xs=true:=by simpa[PyData.showableAll] using h
   have a:=o5 hx h'.1
   have b:=gw hs h'.2
   simp only[PyData.shownAll,List.map_cons,List.sum_cons,List.length_cons,iI]
   omega
end
section
variable{X:Cx}
def Bj:List V->Hp->VK->Prop:=fun xs H Q=>∃f v d,xs=[v]∧RepF H f v d∧d.showable=true∧d.depth≤60∧cH d≤sizeLine∧Q (.str d.shown) H
theorem uh (hg:X.A.guards=some []) (hu:X.A.units + 64<cLine):CallR X (.builtin "repr") Bj:=by
 intro pins s σ H xs us Q I r h
 obtain⟨f,v,d,rfl,rd,ho,hd,hz,q⟩:=h
 have hz':=Nat.le_trans (o5 rd ho) hz
 obtain⟨u,rfl,ru⟩:=vals1 r
 cases rd with
 |non=>cases ru;exact P.repr_of_none ⟨.str _,H,I.tok _,⟨_,rfl⟩,(by simpa only[PyData.shown] using q)⟩
 |bl b=>cases ru;exact P.repr_of_bool ⟨.str _,H,I.tok _,⟨_,rfl⟩,(by simpa only[PyData.shown] using q)⟩
 |int i=>
   obtain⟨t,rfl⟩:=ru
   exact P.repr_of_int (by simpa[PyData.showable] using ho) ⟨.str _,H,I.tok _,⟨_,rfl⟩,(by simpa only[PyData.shown] using q)⟩
 |str x=>
   obtain⟨t,rfl⟩:=ru
   exact P.repr_of_str ⟨.str _,H,I.tok _,⟨_,rfl⟩,(by simpa only[PyData.shown] using q)⟩ (by simpa only[PyData.shown] using hz')
 | lst h hs=>
   cases ru
   obtain⟨its,rv,⟨o,n,h1,h2,_,h3⟩,_⟩:=I.list (SqL.of h)
   obtain⟨as,ra⟩:=RepsF.reads I hs rv
   simp only[PyData.shown] at hz' q
   obtain⟨bs,hb,hk⟩:=RepsF.k I hs rv (by simpa only[PyData.showable] using ho) fun t ht=>Nat.le_trans (listText_mem_le ht) hz'
   simp only[PyData.depth] at hd
   refine call_repr_slot (by omega) ⟨_,h1,h2⟩ F.slot_list_repr.toG ?_
   cases its with
   |nil=>
     cases ra
     simp only[PyData.shownAll,listText_nil] at q
     exact call_list_repr_empty ⟨o,h1,h2⟩ h1 h3 ⟨_,_,rfl,.str _,H,I.kept fun _ _ e=>e,⟨_,rfl⟩,q⟩
   |cons x l=>
     exact call_list_reprK h1 h2 h3 (qp (.list h1 h2 h3 ra) (by simp only[PyData.depth]) hb).1 (by simpa using hk.length_eq) (fun i y e=>hk.item i y (by simpa using e)) hg (fun b _=>Clear.nil b) (by show X.A.units+1+_<_;omega) (fun _ _ e=>e) (fun h' u tk hk=>⟨_,_,rfl,.str _,H,I.kept hk,⟨_,rfl⟩,q⟩) hz'
 |tup h hs=>
   cases ru
   obtain⟨its,rv,⟨o,h1,h2,n,h3⟩,_⟩:=I.tuple (SqT.of h)
   obtain⟨as,ra⟩:=RepsF.reads I hs rv
   simp only[PyData.shown] at hz' q
   obtain⟨bs,hb,hk⟩:=RepsF.k I hs rv (by simpa only[PyData.showable] using ho) fun t ht=>Nat.le_trans (tupleText_mem_le ht) hz'
   simp only[PyData.depth] at hd
   refine call_repr_slot (by omega) ⟨_,h1,h2⟩ F.slot_tuple_repr ?_
   exact call_tuple_reprK h1 h2 h3 (qp (.tuple h1 h2 h3 ra) (by simp only[PyData.depth]) hb).1 hk hg (fun b _=>Clear.nil b) (by show X.A.units+1+_<_;omega) (fun _ _ e=>e) (fun h' u tk hk=>⟨_,_,rfl,.str _,H,I.kept hk,⟨_,rfl⟩,q⟩) hz'
 |d0 h=>
   obtain⟨as,ra,nn⟩:=RepF.reads I (.d0 h) ru
   cases ru
   exact repr_of_reads' ra ho (fun _=>nn ⟨_,rfl⟩) hg (by omega) (fun _ _ e=>e) (fun h' u tk hk=>⟨.str _,H,I.kept hk,⟨_,rfl⟩,q⟩) hz'
 |d1 h=>
   obtain⟨as,ra,nn⟩:=RepF.reads I (.d1 h) ru
   cases ru
   exact repr_of_reads' ra ho (fun _=>nn ⟨_,rfl⟩) hg (by omega) (fun _ _ e=>e) (fun h' u tk hk=>⟨.str _,H,I.kept hk,⟨_,rfl⟩,q⟩) hz'
end
theorem DY{X:Cx}{x:Str}{T:String}{r:List V->Hp->VK->Prop}{p pos:Pos}{e:Expr}{es:List Expr}{t:TA}(hc:CallR X (.type T) r)(hm:X.mg x=none)(ha:PA X (e::es) t)(hg:Gl X x:=by rfl)(hv:bootBuiltins x=some (.type T):=by decide +kernel)(hn:x≠"__name__":=by decide)(hdb:(x==("__debug__":Str))=false:=by decide)
  (he:starEach (e::es) X.env=(false,eval e X.env)::starEach es X.env:=by rfl) (hpl:(backTo pos (starEach es X.env)).any (·.1)=false:=by rfl) :
  PE X (.Call (.Name x p) (e::es) [] pos) (tCB r t):=pe_callTy hc hg hm hv ha hn hdb he hpl
def notStar:Expr->Bool
 |.Starred _ _=>false
 |_=>true
theorem bK{e:Expr}{es:List Expr}{env:Env}(h:notStar e=true):starEach (e::es) env=(false,eval e env)::starEach es env:=by
 cases e<;>first | rfl | cases h
theorem DR{X:Cx}{e:Expr}{es:List Expr}{te:TE}{t:TA}(ha:PE X e te)(hr:PA X es t)(hs:notStar e=true:=by rfl):PA X (e::es) (tCons te t):=pa_cons ha hr (bK hs)
structure QI(X:Cx)(tg l:Expr)(wi:TI):Prop where
 h:PI X tg l wi
structure QA(X:Cx)(es:List Expr)(t:TA):Prop where
 h:PA X es t
theorem Bh{X:Cx}:QA X [] tNil:=⟨pa_nil⟩
theorem Ea{X:Cx}{e:Expr}{es:List Expr}{te:TE}{t:TA}(ha:PE X e te)(hr:QA X es t)(hs:notStar e=true:=by rfl):QA X (e::es) (tCons te t):=⟨DR ha hr.h hs⟩
section
variable{X:Cx}{j k:Nat}{ps:List Str}{sp:Sp}{x:Str}{p pos:Pos}{e:Expr}{es:List Expr}{t:TA}{E:XK}
theorem zg{x1}(h:QA X es t):PE X (.Tuple es x1 pos) (tTup t):=pe_tup h.h
theorem tH(h:QA X es t):PE X (.List es pos) (tLst t):=pe_lst h.h
theorem vP(D:DefC X.prog X.w X.K X.mg X.base j x ps sp)(hr:Room k X.A)(hx:Passes (dW X.prog X.w) X E)(ha:QA X (e::es) t)(hjk:j≤k:=by decide)(hg:Gl X x:=by rfl)(hdb:(x==("__debug__":Str))=false:=by decide)
  (he:notStar e=true:=by rfl) (hpl:(backTo pos (starEach es X.env)).any (·.1)=false:=by rfl) :
  PE X (.Call (.Name x p) (e::es) [] pos) (tCall sp [] E t):=xF D hr hx ha.h hjk hg hdb (bK he) hpl
theorem Cg{id:String}{r:List V->Hp->VK->Prop}(hc:CallR X (.builtin id) r)(hm:X.mg x=none)(ha:QA X (e::es) t)(hg:Gl X x:=by rfl)(hv:bootBuiltins x=some (.builtin id):=by decide +kernel)(hn:x≠"__name__":=by decide)(hdb:(x==("__debug__":Str))=false:=by decide)
  (he:notStar e=true:=by rfl) (hpl:(backTo pos (starEach es X.env)).any (·.1)=false:=by rfl) :
  PE X (.Call (.Name x p) (e::es) [] pos) (tCB r t):=DX hc hm ha.h hg hv hn hdb (bK he) hpl
theorem Cj{T:String}{r:List V->Hp->VK->Prop}(hc:CallR X (.type T) r)(hm:X.mg x=none)(ha:QA X (e::es) t)(hg:Gl X x:=by rfl)(hv:bootBuiltins x=some (.type T):=by decide +kernel)(hn:x≠"__name__":=by decide)(hdb:(x==("__debug__":Str))=false:=by decide)
  (he:notStar e=true:=by rfl) (hpl:(backTo pos (starEach es X.env)).any (·.1)=false:=by rfl) :
  PE X (.Call (.Name x p) (e::es) [] pos) (tCB r t):=DY hc hm ha.h hg hv hn hdb (bK he) hpl
theorem Bf {T name id:String}{r:V->List V->Hp->VK->Prop}{o:Expr}{to:TE}{apos cpos:Pos} (pa:PlainAttrs T) (slot:Slot T name id) (hty:typeOf (.builtin id)=pure (.type "method_descriptor")) (hm:MtR X id r) (ho:PE X o to) (ha:QA X (e::es) t)
  (hbase:attributeBase o name X.env (eval o X.env)=eval o X.env:=by rfl)
  (hfew:((backTo cpos (starEach (e::es) X.env)).all (fun x=>!x.1)&&(backToKw cpos (keywordEach [] X.env)).all (fun x=>x.1.isSome)
   &&decide ((e::es).length+([]:List Keyword).length+(if ([]:List Keyword).isEmpty then 0 else 1)<30))=true:=by rfl)
  (hline:(apos.endLine==cpos.line)=true:=by rfl) (hs:notStar e=true:=by rfl) (hplain:(backTo cpos (starEach es X.env)).any (·.1)=false:=by rfl) :
  PE X (.Call (.Attribute o name apos) (e::es) [] cpos) (tBM X.K T r to t):=pe_bm pa slot hty hm ho ha.h hbase hfew hline (bK hs) hplain
theorem uy{tg a:Expr}{ta:TA}(hg:Gl X "range")(hm:X.mg "range"=none)(ha:QA X [a] ta)(hs:notStar a=true:=by rfl):QI X tg (.Call (.Name "range" p) [a] [] pos) (iRng1 ta):=⟨pi_range1 hg hm ha.h (bK hs)⟩
theorem uz{tg a b:Expr}{ta:TA}(hg:Gl X "range")(hm:X.mg "range"=none)(ha:QA X [a,b] ta)(hs:notStar a=true:=by rfl)(hs2:notStar b=true:=by rfl):QI X tg (.Call (.Name "range" p) [a,b] [] pos) (iRng2 ta):=
 ⟨pi_range2 hg hm ha.h ((bK hs).trans (by rw[bK hs2];rfl)) (bK hs2)⟩
end
def qC{α:Type}(P:α->Prop):List α->Prop
 |[]=>True
 |a::l=>P a∧qC P l
theorem jJ {α:Type}{P:α->Prop}:∀ {l:List α},qC P l->∀ a∈l,P a
 |[],_,_,h=>nomatch h
 |b::l,h,a,hm=>by
   rcases List.mem_cons.mp hm with rfl | hm
   ·exact h.1
   ·exact jJ h.2 a hm
theorem mem_of_lookup {β:Type}{y:Str}{c:β}:∀ {l:List (Str×β)},l.lookup y=some c->(y,c)∈l
 |[],h=>by cases h
 | (z,d)::l,h=>by
   rw[List.lookup_cons] at h
   split at h
   ·rename_i e
    have e':y=z:=by simpa using e
    cases h
    rw[e'];exact List.mem_cons_self ..
   ·exact List.mem_cons_of_mem _ (mem_of_lookup h)
theorem Bs{cl cells:List (Str×Addr)}(h:qC (fun p=>cells.lookup p.1=some p.2) cl):∀y c,cl.lookup y=some c->cells.lookup y=some c:=fun y c e=>jJ h (y,c) (mem_of_lookup e)
def w6:NameKind->Bool
 |.cell | .free=>true
 |_=>false
theorem Ab{names:List (Str×NameKind)}{cl:List (Str×Addr)}(h:(names.all fun p=>!w6 p.2 || (cl.lookup p.1).isSome)=true):∀y,(names.lookup y=some .cell∨names.lookup y=some .free)->∃c,cl.lookup y=some c:=fun y e=>by
 have hh:=List.all_eq_true.mp h
 rcases e with e | e
 ·have:=hh _ (mem_of_lookup e)
  simp only[w6,Bool.not_true,Bool.false_or] at this
  exact Option.isSome_iff_exists.mp this
 ·have:=hh _ (mem_of_lookup e)
  simp only[w6,Bool.not_true,Bool.false_or] at this
  exact Option.isSome_iff_exists.mp this
theorem zZ{js:List Nat}{fr:List Str}{P:Nat->Str->Prop}(h:qC (fun p:Nat×Str=>P p.1 p.2) (js.zip fr)):∀(k j:Nat) (y:Str),js[k]?=some j->fr[k]?=some y->P j y:=fun k j y h1 h2=>by
 refine jJ h (j,y) (List.mem_iff_getElem?.mpr ⟨k,?_⟩)
 rw[List.getElem?_zip_eq_some]
 exact⟨h1,h2⟩
section
variable{X:Cx}
def j9:V->Bool
 |.bl b=>b
 |.int i=>i != 0
 |_=>false
def scS:V->Bool
 |.bl _=>true
 |.int _=>true
 |_=>false
theorem wB{prog:Program}{w:World}{A:Around}{E:Value->Shared->Prop}{s:Shared}{v:V}{u:Value}{Q:Bool->Shared->Prop}(h:scS v=true)(r:RelV v u)(q:Q (j9 v) s):wpAny (model prog w) A (truthy u) Q E s:=by
 cases v with
 |bl b=>cases r;exact wpAny_truthy_bool q
 |int i=>obtain⟨t,rfl⟩:=r;exact PyProof.Rows.truthy_int q
 |_=>cases h
theorem range_all{xs:List V}{tr:Nat->Bool}(h:∀(i:Nat) (x:V),xs[i]?=some x->tr i=j9 x):(List.range xs.length).all tr=xs.all j9:=by
 rw[Bool.eq_iff_iff,List.all_eq_true,List.all_eq_true]
 constructor
 ·intro q x hx
  obtain⟨i,hi,e⟩:=List.mem_iff_getElem.mp hx
  have:=q i (List.mem_range.mpr hi)
  rw[h i x (by rw[List.getElem?_eq_getElem hi,e])] at this
  exact this
 ·intro q i hi
  have hi':=List.mem_range.mp hi
  rw[h i xs[i] (List.getElem?_eq_getElem hi')]
  exact q _ (List.getElem_mem hi')
theorem CW{prog:Program}{w:World}{A:Around}{xs:List V}{its:List Value}(rv:Vals xs its)(hs:∀x∈xs,scS x=true):TruthOf prog w A (fun i v=>its.toArray[i]?=some v) (fun i=>j9 (xs[i]?.getD .non)):=by
 intro i v s Q E hP hQ
 have e:its[i]?=some v:=by simpa using hP
 have hl:=rv.length
 have hi:i<xs.length:=by rw[hl];exact (List.getElem?_eq_some_iff.mp e).1
 obtain⟨u,e2,r⟩:=rv.get (List.getElem?_eq_getElem hi)
 rw[e] at e2
 cases e2
 refine wB (hs _ (List.getElem_mem hi)) r ?_
 have hQ':Q (j9 (xs[i]?.getD V.non)) s:=hQ
 rw[List.getElem?_eq_getElem hi] at hQ'
 exact hQ'
theorem wJ(hh:X.A.handled=none):CallR X (.builtin "all") (fun vs H Q=>∃l xs,vs=[.ref l]∧H l=some (.lst xs)∧(∀x∈xs,scS x=true)∧Q (.bl (xs.all j9)) H):=by
 intro pins s σ H vs us Q I r h
 obtain⟨l,xs,rfl,hH,hs,q⟩:=h
 obtain⟨u,rfl,ru⟩:=vals1 r
 cases ru
 obtain⟨its,rv,p,hz⟩:=I.list (SqL.of (K:=X.K) hH)
 have hl:l<s.heap.objs.size:=by obtain⟨o,n,e,_⟩:=p;exact Heap.lt_size e
 refine call_all_walk (wpAny_pyIter_list p.isList ?_)
 refine⟨s.heap.objs.size,[s.heap.objs.size,l],[s.heap.objs.size],its.toArray.size,fun i v=>its.toArray[i]?=some v,fun i h=>h.IsListIter s.heap.objs.size l i∧h.IsList l its.toArray,fun i=>j9 (xs[i]?.getD .non),rfl,Walks.list (A:=X.A.in1) hh s.heap.objs.size l (Nat.ne_of_lt hl) its.toArray,⟨⟨_,Heap.get?_push_size _ rfl,rfl,rfl⟩,p.isList.at fun o e=>Heap.get?_push_of_some _ e⟩,CW rv hs,fun h' tk hk=>?_⟩
 refine⟨.bl (xs.all j9),H,I.kept fun b o e=>hk b o (fun z=>?_) (Heap.get?_push_of_some _ e),?_,q⟩
 ·have:b=s.heap.objs.size:=by simpa using z
  exact absurd (Heap.lt_size e) (by rw[this];exact Nat.lt_irrefl _)
 ·rw[show its.toArray.size=xs.length by rw[List.size_toArray];exact rv.length.symm]
  show Value.bool _=Value.bool _
  rw[range_all fun i x e=>by rw[e];rfl]
theorem nO:fillsNumberSlot (.type "tuple") "mul"=pure false:=
 PySem.fillsNumberSlot_seq (id := "tuple.__mul__") (r:=some (.builtin "tuple.__rmul__")) F.slot_tuple_mul.lookup (by decide +kernel) F.slot_tuple_rmul.lookup (by decide +kernel)
theorem rF:seqRepeat? (.type "tuple")=pure (some (.builtin "tuple.__mul__")):=by
 unfold seqRepeat?
 rw[PySem.seqSlot_of (T := "tuple") (name := "__mul__") (id := "tuple.__mul__") F.slot_tuple_mul.lookup (by decide +kernel),PySem.seqSlot_of (T := "tuple") (name := "__rmul__") (id := "tuple.__rmul__") F.slot_tuple_rmul.lookup (by decide +kernel)]
 rfl
theorem uH(a:Int)(t:Tok)(l:Addr)(items:Array Value)(n:Nat)(dd:Option Addr)(sl:Array (Option Value)) :
  Meets (Builtin.«int.__rmul__» ⟨[.int a t,.ref l],[]⟩) (fun _ R s=>s.heap.get? l=some { cls:=.type "tuple",dict:=dd,data:=.seq items n,slots:=sl }∧R (.ok (.ret Value.notImplemented)) s):=
 .of_wp fun prog w A R s h=>by obtain⟨hp,g,d,tk,os⟩:=s;obtain⟨hl,h⟩:=h;wp_walk;exact⟨_,rfl,h⟩
open PySem.AutoSeq1 (wpAny_loadPart') in
theorem Cd(l:Addr)(items:Array Value)(n:Nat)(dd:Option Addr)(sl:Array (Option Value))(t:Tok) :
  Meets (Builtin.«tuple.__mul__» ⟨[.ref l,.int 1 t],[]⟩) (fun _ R s=>s.heap.get? l=some { cls:=.type "tuple",dict:=dd,data:=.seq items n,slots:=sl }∧R (.ok (.ret (.ref l))) s):=
 .of_wp fun prog w A R s h=>by
  obtain⟨hp,g,d,tk,os⟩:=s;obtain⟨hl,h⟩:=h
  have f1:=AutoSeq1.idx_int
  have f2:=AutoSeq1.sub_tuple_tuple
  unfold Builtin.«tuple.__mul__»
  wp_walk using wpAny_loadPart' hl
  exact⟨_,rfl,h⟩
open PySem.AutoSeq1 (wpAny_loadPart') in
theorem Ce (l:Addr) (items:Array Value) (n:Nat) (dd:Option Addr) (sl:Array (Option Value)) (k:Int) (t:Tok) (h0:¬(decide (k < -2 ^ 63) || decide (k ≥ 2 ^ 63))=true) (h1:¬(items.isEmpty || k == 1)=true) (h2:¬(decide (k≤0) || items.isEmpty)=true)
  (h3:¬((items.size:Int)*k > (2^63-1) / 8)) (h4:¬Builtin.Tuple.tupleTooMany ((items.size:Int)*k)=true) (h5:sizeOk (.seq (List.foldl (fun x1 x2=>x1++x2) #[] (List.replicate k.toNat items)))) :
  Meets (Builtin.«tuple.__mul__» ⟨[.ref l,.int k t],[]⟩) (fun _ R s=>s.heap.get? l=some { cls:=.type "tuple",dict:=dd,data:=.seq items n,slots:=sl } ∧
   R (.ok (.ret (.ref s.heap.objs.size))) { s with heap:=s.heap.push { cls:=.type "tuple",data:=.seq (List.foldl (fun x1 x2=>x1++x2) #[] (List.replicate k.toNat items)) } }):=
 .of_wp fun prog w A R s h=>by
  obtain⟨hp,g,d,tk,os⟩:=s;obtain⟨hl,h⟩:=h
  have f1:=AutoSeq1.idx_int
  have f2:=AutoSeq1.sub_tuple_tuple
  unfold Builtin.«tuple.__mul__»
  wp_walk using wpAny_loadPart' hl
  rw[if_neg h0]
  wp_walk using wpAny_loadPart' hl
  rw[if_neg h3]
  wp_walk using wpAny_loadPart' hl
  rw[if_neg (show ¬ _ > sizeLine from Nat.not_lt.mpr h5)]
  wp_walk using wpAny_loadPart' hl
  all_goals first | exact⟨_,rfl,h⟩ | assumption
def Cp:R2:=fun x y H Q=>∃(l:Addr) (c:V) (k:Int),x=.ref l∧y=.int k∧H l=some (.tup [c])∧1≤k∧k≤1000∧∀p H',Same H H'->H' p=some (.tup (List.replicate k.toNat c))->Q (.ref p) H'
theorem zf:OpR X (binaryOp .Mult) Cp:=by
 intro pins s σ H x y v u Q I rx ry h
 obtain⟨l,c,k,rfl,rfl,hH,h1,h2,q⟩:=h
 cases rx
 obtain⟨t,rfl⟩:=ry
 obtain⟨its,r,⟨⟨cls,dd,data,sl⟩,e,hc,n,hd⟩,hz⟩:=I.tuple (SqT.of (K:=X.K) hH)
 simp only at hc hd
 subst hc hd
 obtain⟨u,rfl,ru⟩:=vals1 r
 have ty:s.TypeIs (.ref l) "tuple":=⟨_,e,rfl⟩
 refine wpAny_binaryOp_repeat_ref (T := "tuple") (U := "int") (by decide) ty (fun s'=>typeIs_int s' k t) nO F.fills_int_mul F.slot_int_rmul rF F.slot_int_index.lookup
  (call_meets F.slot_int_rmul (typeIs_int s k t) F.entry_int_rmul (F.args_int_rmul_2 _ _) (uH k t l _ n dd sl) ⟨e,rfl,ty,?_⟩)
 by_cases hk:k=1
 ·subst hk
  refine call_meets F.slot_tuple_mul ty F.entry_tuple_mul (F.args_tuple_mul_2 _ _) (Cd l _ n dd sl t) ⟨e,?_⟩
  exact⟨.ref l,H,I,rfl,q l H (Same.refl _) hH⟩
 ·have fl:List.foldl (fun x1 x2=>x1++x2) #[] (List.replicate k.toNat #[u])=(List.replicate k.toNat u).toArray:=by
   have:=foldl_rep [u] k.toNat []
   rw[List.nil_append] at this
   rw[this]
   have e2:∀m:Nat,(List.replicate m [u]).flatten=List.replicate m u:=fun m=>by
    induction m with
    |zero=>rfl
    |succ m ih=>rw[List.replicate_succ,List.flatten_cons,ih,List.replicate_succ];rfl
   rw[e2]
  refine call_meets F.slot_tuple_mul ty F.entry_tuple_mul (F.args_tuple_mul_2 _ _) (Ce l #[u] n dd sl k t ?_ ?_ ?_ ?_ ?_ ?_) ⟨e,?_⟩
  ·simp;omega
  ·simp[hk]
  ·simp;omega
  ·show ¬ (((1:Nat):Int)*k > (2^63-1) / 8);omega
  ·unfold Builtin.Tuple.tupleTooMany;rw[sizeLine_eq];show ¬ decide (((1:Nat):Int)*k > _)=true;simp;omega
  ·show (List.foldl (fun x1 x2=>x1++x2) #[] (List.replicate k.toNat #[u])).size≤sizeLine
   rw[fl,List.size_toArray,List.length_replicate,sizeLine_eq];omega
  rw[fl]
  have rr:∀m:Nat,Vals (List.replicate m c) (List.replicate m u):=fun m=>by
   induction m with
   |zero=>exact .nil
   |succ m ih=>rw[List.replicate_succ,List.replicate_succ];exact .cons ru ih
  refine⟨.ref s.heap.objs.size,_,I.laid (t':=s.toks) (o:=.tup (List.replicate k.toNat c)) (fun b ob q=>Heap.get?_push_of_some _ q) (Nat.le_refl _) ?_,rfl,q _ _ (same_new (I.hok.fresh (Nat.le_refl _)) _) upd_same⟩
  exact⟨by rw[List.length_replicate,sizeLine_eq];omega,_,rr _,IsTup.new _ _⟩
theorem Ci{x:Str}{i:Int}{t:Tok}{pos:Pos}(h:X.mg x=some (.int i t))(hg:Gl X x:=by rfl)(hd:(x==("__debug__":Str))=false:=by decide):PE X (.Name x pos) (tC (.int i)):=pe_glob hg h ⟨t,rfl⟩ hd
theorem nF{α β:Type}{f g:α->Option β}:∀{l:List α},(∀x∈l,f x=g x)->l.filterMap f=l.filterMap g
 |[],_=>rfl
 |a::l,h=>by rw[List.filterMap_cons,List.filterMap_cons,h a (List.mem_cons_self ..),nF fun x hx=>h x (List.mem_cons_of_mem _ hx)]
theorem xH(xs:List Value):((List.range xs.length).filterMap fun (m:Nat)=>xs.toArray[(((xs.length:Int)-1)+(m:Int)*(-1)).toNat]?)=xs.reverse:=by
 have e:(List.range xs.length).filterMap (fun (m:Nat)=>xs.toArray[(((xs.length:Int)-1)+(m:Int)*(-1)).toNat]?)=(List.range xs.length).filterMap (fun (m:Nat)=>xs.reverse[m]?):=by
  refine nF fun m hm=>?_
  have hm':=List.mem_range.mp hm
  rw[List.getElem?_reverse hm']
  have:(((xs.length:Int)-1)+(m:Int)*(-1)).toNat=xs.length-1-m:=by omega
  rw[this];simp
 rw[e]
 have q:=pick_run xs.reverse.toArray 0 xs.length
 rw[List.filterMap_map] at q
 have e2:(List.range xs.length).filterMap (fun (m:Nat)=>xs.reverse[m]?)=(List.range xs.length).filterMap ((fun x=>xs.reverse.toArray[x]?) ∘ fun x=>0+x):=nF fun m _=>by simp
 rw[e2,q]
 show List.take xs.length (List.drop 0 xs.reverse)=xs.reverse
 rw[List.drop_zero]
 exact List.take_of_length_le (by simp)
theorem nR{prog:Program}{w:World}{A:Around}{E:Value->Shared->Prop}{s:Shared}{sl:Addr}{tk:Tok}{n:Nat}{Q:Int×Int×Nat->Shared->Prop}(hs:s.heap.IsSliceOf sl .none .none (.int (-1) tk))(h:Q (((n:Int)-1),-1,n) s) :
  wpAny (model prog w) A (Builtin.Slice.sliceApplied (.ref sl) (pure (n:Int))) Q E s:=by
 obtain⟨os,hos,hcs,hds⟩:=id hs
 unfold Builtin.Slice.sliceApplied Builtin.Slice.sliceFields
 refine wpAny_bind (wpAny_bind (wpAny_field hos hds (x:=.none) rfl (wpAny_bind (wpAny_field hos hds (x:=.none) rfl (wpAny_bind (wpAny_field hos hds (x:=.int (-1) tk) rfl (wpAny_pure ?_)))))))
 refine wpAny_bind (slicePart_int ?_)
 show wpAny _ _ (if ((-1:Int)==0)=true then _ else _) _ _ s
 rw[if_neg (by decide)]
 refine wpAny_bind (slicePart_none (wpAny_bind (slicePart_none (wpAny_bind (wpAny_pure ?_)))))
 have e:Builtin.Slice.slicePlaces ((n:Int)-1) (-1) (-1)=n:=by
  unfold Builtin.Slice.slicePlaces
  rw[if_neg (by decide),show -(-1:Int)=1 from rfl,Int.ediv_one]
  split<;>omega
 show wpAny _ _ (pure (((n:Int)-1),(-1:Int),Builtin.Slice.slicePlaces ((n:Int)-1) (-1) (-1))) _ _ s
 rw[e]
 exact wpAny_pure h
theorem mU{prog:Program}{w:World}{A:Around}{E:Value->Shared->Prop}{s:Shared}{t sl:Addr}{its:List Value}{tk:Tok}{Q:Value->Shared->Prop}(ht:IsTup s.heap t its.toArray)(hs:s.heap.IsSliceOf sl .none .none (.int (-1) tk))
  (h:Q (.ref s.heap.objs.size) { s with heap:=s.heap.push { cls:=.type "tuple",data:=.seq its.reverse.toArray } }) (hsz:its.length≤sizeLine):wpAny (model prog w) A (getItem (.ref t) (.ref sl)) Q E s:=by
 obtain⟨os,hos,hcs,hds⟩:=id hs
 have hTs:s.TypeIs (.ref sl) "slice":=⟨os,hos,hcs⟩
 unfold getItem
 try with_reducible refine wpAny_holding ?_
 first | refine wpAny_bind (wpAny_pure ?_) | skip
 refine wpAny_bind (wpAny_sequenceKey ht.typeIs (by decide) ?_)
 refine wpAny_bind (wpAny_callSpecial?_slot (name:=Str.ofString "__getitem__") ht.typeIs PyProof.Rows.slot_tuple_getitem
  (wpAny_call_entry PyProof.Rows.slot_tuple_getitem ht.typeIs entry_tuple_getitem ?_ (args_tuple_getitem _ _)))
 show wpAny _ _ (Builtin.Tuple.tupleItemsOf (.ref t)>>=_) _ _ s
 refine wpAny_bind (tupleItemsOf_ ht ?_)
 refine wpAny_bind (wpAny_typeOf hTs ?_)
 rw[if_pos (by decide)]
 rw[show its.toArray.size=its.length from by simp]
 refine wpAny_bind (nR hs ?_)
 have hno:¬ ((((its.length:Int)-1)==0&&(-1:Int)==1&&its.length==its.length)=true):=by simp
 show wpAny _ _ (if ((((its.length:Int)-1)==0&&(-1:Int)==1&&its.length==its.length)=true) then _ else _) _ _ s
 rw[if_neg hno,xH]
 have htake:sizeOk (.seq its.reverse.toArray):=by
  show its.reverse.toArray.size≤sizeLine
  rw[List.size_toArray,List.length_reverse];exact hsz
 first
  |exact wpAny_bind (m:=Builtin.Tuple.tupleExact _) (wpAny_newObj_type (wpAny_pure ⟨_,rfl,wpAny_pure h⟩) htake)
  |exact wpAny_bind (m:=Builtin.Tuple.tupleExact _) (wpAny_newObj_type (wpAny_bind (wpAny_pure (wpAny_pure ⟨_,rfl,wpAny_pure h⟩))) htake)
  |exact wpAny_bind (wpAny_bind (m:=Builtin.Tuple.tupleExact _) (wpAny_newObj_type (wpAny_pure (wpAny_pure ⟨_,rfl,wpAny_pure h⟩)) htake))
  |exact wpAny_bind (wpAny_bind (m:=Builtin.Tuple.tupleExact _) (wpAny_newObj_type (wpAny_pure ⟨_,rfl,wpAny_pure h⟩) htake))
def Ej(te:TE):TE:=fun σ H Q=>te σ H fun x H1=>∃a xs,x=.ref a∧H1 a=some (.tup xs)∧∀p,H1 p=none->Q (.ref p) (upd H1 p (.tup xs.reverse))
theorem Bg{e:Expr}{te:TE}{j:Nat}{p2 p3 p4 pos:Pos}(he:PE X e te):PE X (.Subscript e (.Slice none none (some (.UnaryOp .USub (.Constant (.int 1) j p3) p4)) p2) pos) (Ej te):=by
 intro pins s σ H Q I h
 refine Subscript_ (thn (he pins s σ H _ I h) fun v s1 ⟨x,H1,I1,r1,q1⟩=>?_)
 obtain⟨a,xs,rfl,hx,q⟩:=q1
 cases r1
 refine wpAny_Slice ?_
 rw[evalPart_none]
 refine wpAny_pure (wpAny_pure ?_)
 rw[evalPart_some]
 have hu:PE X (.UnaryOp .USub (.Constant (.int 1) j p3) p4) (tUn (rU fun i=>.int (-i)) (tC (.int 1))):=pe_un un_neg pe_int
 refine thn (hu pins s1 σ H1 (fun v H'=>v=.int (-1)∧H'=H1) I1 ⟨1,rfl,rfl,rfl⟩) fun u s2 ⟨y,H2,I2,r2,ey,eh⟩=>?_
 subst ey eh
 obtain⟨tk,rfl⟩:=r2
 have I3:Inv X pins σ H2 { s2 with heap:=s2.heap.push { cls:=.type "slice",data:=.fields #[.none,.none,.int (-1) tk] } }:=I2.kept (t':=s2.toks) fun b ob q=>Heap.get?_push_of_some _ q
 obtain⟨its,r,ht,hz⟩:=I3.tuple (SqT.of (K:=X.K) hx)
 refine tail_any (ops:=[.ref a,.ref s2.heap.objs.size]) ht.typeIs PyProof.Rows.slot_tuple_getitem.lookup (mU ht (Heap.IsSliceOf.new ..) ?_ (by rw[←r.length];exact hz)) (by with_unfolding_all rfl)
 refine⟨.ref _,_,I3.laid (t':=s2.toks) (o:=.tup xs.reverse) (fun b ob q=>Heap.get?_push_of_some _ q) (Nat.le_refl _) ?_,rfl,q _ (I3.hok.fresh (Nat.le_refl _))⟩
 exact⟨by rw[List.length_reverse];exact hz,_,r.reverse,IsTup.new _ _⟩
end
structure MethAt(K:PySem.W.Frag)(C:Addr)(x qual:Str)(st:Stmt):Prop where
 ex:∃f fd,Fun K x qual st f fd∧PySem.W.findIn K (.ref C) x=some (some (.ref f))∧PySem.W.isFn K (.ref f)=true
structure MethC(P:Program)(w:World)(K:PySem.W.Frag)(mg:Str->Option Value)(base:Heap)(k:Nat)(C:Addr)(x:Str)(ps:List Str)(sp:Sp):Prop where
 ex:∃f fd,FnOk P w K mg base (dW P w) k f fd ps sp∧Binds K fd ps []∧PySem.W.keepIn K (.ref f)=true∧PySem.W.findIn K (.ref C) x=some (some (.ref f))∧PySem.W.isFn K (.ref f)=true
theorem vM{K:PySem.W.Frag}{C:Addr}{x qual:Str}{st:Stmt}{f:Addr}{oc:Value}{od an:Option Addr}{osl:Array (Option Value)}{kV doc pm cdv ct:Value}
  (a:PySem.W.findIn K (.ref C) x=some (some (.ref f))) (n:PySem.W.isFn K (.ref f)=true) (l:K.lookup f=some ⟨oc,od,.func (PySem.W.fnOf x qual (defArgs st) (defBody st) (defScope st) .none kV doc pm an cdv ct),osl⟩) (c:PySem.W.codeIn K cdv qual=true) (k:PySem.W.keepIn K (.ref f)=true):MethAt K C x qual st:=
 ⟨f,_,fun_mk l c k,a,n⟩
section
variable{P:Program}{w:World}{K:PySem.W.Frag}{mg:Str->Option Value}{base:Heap}{k:Nat}{C:Addr}{x qual:Str}{N ps:List Str}{sp:Sp}{st:Stmt}
theorem Dy {f:Addr}{fd:FuncData} (F:Fun K x qual st f fd) (S:FnScope N ps (defScope st)) (len:∀ vs H Q E,sp vs H Q E->vs.length=ps.length)
  (hbody:∀(cdv:Value) (A:Around) (outer:List Env) (s:Shared) (H:Hp) (vs:List V) (Q:VK) (E:XK),Room k (A.deeper (envOfC qual (defScope st) s.heap.objs.size f cdv))->sp vs H Q E->
    ∃t,PSs (gY P w K mg base N qual (defScope st) f cdv A outer s H E) (defBody st) t∧t { nx:=fun _ H'=>Q .non H',rt:=Q } (start N vs) H):FnOk P w K mg base (dW P w) (k+1) f fd ps sp:=by
 obtain⟨oc,od,kV,doc,pm,an,cdv,ct,osl,rfl,l,c⟩:=F.ex
 exact fn_of l c S len (hbody cdv)
end
section
variable{X:Cx}{j k:Nat}{C:Addr}{ps:List Str}{sp:Sp}{x:Str}{p pos:Pos}{e:Expr}{es:List Expr}{t:TA}{E:XK}
theorem xG(D:MethC X.prog X.w X.K X.mg X.base j C "__init__" ps sp)(mk:PySem.W.makesIn X.K C=true)(kc:PySem.W.keepIn X.K (.ref C)=true)(hm:X.mg x=some (.ref C))(hr:Room k X.A)(hx:Passes (dW X.prog X.w) X E)(ha:QA X (e::es) t)(hjk:j+1≤k:=by decide)(hg:Gl X x:=by rfl)(hdb:(x==("__debug__":Str))=false:=by decide)
  (he:notStar e=true:=by rfl) (hpl:(backTo pos (starEach es X.env)).any (·.1)=false:=by rfl) :
  PE X (.Call (.Name x p) (e::es) [] pos) (tMake C sp [] E t):=by
 obtain⟨f,fd,F,b,kp,a,n⟩:=D.ex
 exact pe_make ⟨mk,a,n,kc⟩ F (hr.mono hjk) hg hm b .nil hx ha.h hdb (bK he) hpl
end
open PySem PySem.Spec PyProof.Rows
section
variable{X:Cx}{CX:CXT}{k:Nat}{f C:Addr}{fd:FuncData}{ps:List Str}{sp:Sp}{E:XK}
theorem zA {pins:List (Addr×Obj)}{σ:St}{H:Hp}{s:Shared}{Q:VK}{us:List Value}{vs:List V} (F:FnOk X.prog X.w X.K X.mg X.base CX k f fd ps sp) (hr:Room k X.A.in1) (hb:Binds X.K fd ps []) (hx:Passes CX X E)
  (I:Inv X pins σ H s) (r:Vals vs us) (h:sp vs H Q E):wpAny (model X.prog X.w) X.A.in1 (call (.ref f) us) (EP X pins σ Q) X.xe s:=by
 have hl:(us++[]).length=ps.length:=by rw[List.append_nil,←r.length];exact F.len _ _ _ _ h
 have hl':us.length=ps.length:=by rw[List.append_nil] at hl;exact hl
 have bb:=hb s us I.kIn hl
 rw[List.append_nil] at bb
 refine wpAny_call (codeAny_mono (F.run X.A.in1 X.stack s H ⟨us,[]⟩ us vs Q E hr ⟨(show X.A.in1.frames=some X.stack from I.ok.frames),I.ok.mod,I.bs,Nat.le_trans I.ok.bsz I.sz,I.stack,I.stkFree,I.hok,I.bare⟩ bb r h) fun r s' hq=>?_)
 cases r with
 |error e=>exact hx pins σ H s e s' I hq
 |ok fl=>
   cases fl with
   |ret u=>exact I.after hq
   |next=>exact False.elim hq
   |brk=>exact False.elim hq
   |cont=>exact False.elim hq
theorem uZ{j:Nat}(D:MethC X.prog X.w X.K X.mg X.base j C "__len__" ps sp)(hr:Room (j+1) X.A)(hx:Passes (dW X.prog X.w) X E) :
  CallR X (.builtin "len") (fun vs H Q=>∃x dx fs,vs=[.ref x]∧H x=some (.ins C dx fs)∧sp [.ref x] H (fun v H2=>∃n:Int,v=.int n∧(0≤n∧n<2^63)∧Q (.int n) H2) E):=by
 intro pins s σ H vs us Q I r h
 obtain⟨x,dx,fs,rfl,hx',q⟩:=h
 obtain⟨f,fd,F,b,kp,a,n⟩:=D.ex
 obtain⟨u,rfl,ru⟩:=vals1 r
 cases ru
 obtain⟨mA,O,_⟩:=ins_get I.hok hx'
 obtain⟨od,IA,_⟩:=O.look
 refine Calls.call_function_entry PySem.kind_len PySem.plain_len PySem.entry_len (PySem.args_len1 _) ?_
 unfold Builtin.«len»
 refine wpAny_bind (m:=oneArg "len" _) (wpAny_pure ?_)
 refine wpAny_bind (m:=callSpecial? (.ref x) (Str.ofString "__len__")) (PySem.W.special_fn I.kIn IA a (beq_iff_eq.mp n) (wpAny_mono (zA (vs:=[.ref x]) F hr.in1 b hx I (.cons rfl .nil) q) (fun w' s' hw=>?_) fun _ _ y=>y))
 obtain⟨v,H2,I2,rv,m,rfl,⟨h0,h1⟩,qq⟩:=hw
 obtain⟨t,rfl⟩:=rv
 refine wpAny_bind (wpAny_holding (wpAny_pure ?_))
 refine wpAny_bind (wpAny_letGo ?_)
 show wpAny _ _ (if m<0 then _ else _) _ _ _
 rw[if_neg (by omega)]
 show wpAny _ _ (if m ≥ 2^63 then _ else _) _ _ _
 rw[if_neg (by omega)]
 exact wpAny_bind (wpAny_mkInt (wpAny_pure ⟨_,rfl,.int m,H2,I2.tok _,⟨_,rfl⟩,qq⟩))
end
theorem cj:∀ (names:List (Str×NameKind)) (n:Nat) (acc:List (Str×Addr)),cellsFrom n names acc=cellsFrom n names []++acc
 |[],_,_=>rfl
 |(name,kind)::r,n,acc=>by
   unfold cellsFrom
   split
   ·rw[cj r (n+1) ((name,n)::acc),cj r (n+1) [(name,n)],List.append_assoc];rfl
   ·exact cj r n acc
theorem pY{M:Model}{A:Around}{E:Value->Shared->Prop}{s:Shared}{scope:Scope}{globals:Addr}{cl:List (Str×Addr)}{qual:Str}{env:Env}{Q:Env->Shared->Prop}
  (hQ:Q (newEnv scope s.heap.objs.size globals (cellsFrom (s.heap.objs.size+1) scope.names cl) qual none .none (some env) builtinsNs) { s with heap:=pushCells (s.heap.push { cls:=.type "dict",data:=.dict #[] }) scope.names }) :
  wpAny M A (newFunctionEnv scope globals cl [] qual none .none (some env)) Q E s:=by
 simp only[newFunctionEnv,Option.isSome_some,if_true]
 refine wpAny_bind (wpAny_alloc ?_)
 refine wpAny_bind (wpAny_layCells _ (fun name kind cells=>by cases hkc:kind==NameKind.cell<;>simp[hkc]) _ _ _ _ ?_)
 rw[show ({ s with heap:=s.heap.push { cls:=.type "dict",data:=.dict #[] } }:Shared).heap.objs.size=s.heap.objs.size+1 from Heap.size_push ..]
 refine wpAny_bind ?_
 rw[List.forIn_nil]
 exact wpAny_pure (wpAny_pure hQ)
abbrev Cx.bc(X:Cx)(pins:List (Addr×Obj))(scope:Scope)(cs:List (Str×Addr))(Nc:List Str)(fp:List Addr)(C:Addr)(s₂:Shared)(H₂:Hp):Cx where
 prog:=X.prog
 w:=X.w
 K:=X.K
 mg:=X.mg
 base:=X.base
 A:=X.A
 N:=Nc
 s₀:=s₂
 H₀:=H₂
 env:=compEnvC scope cs C X.env
 outer:=X.stack
 stack:=X.stack
 ex:=fp
 fn:=fun y=>scope.names.lookup y==some .cell
 calm:=X.calm
 pn:=X.pn++pins
 xe:=fun _ _=>False
structure CompG(X:Cx)(scope:Scope)(cl:List (Str×Addr))(own:List Str)(js:List Nat)(fr:List Str):Prop where
 kind:scope.kind=.function
 names:∀y∈scope.names,y.2=.local->scope.names.lookup y.1=some .local
 clos:closureFor scope X.env=pure cl
 sub:∀y c,cl.lookup y=some c->X.env.cells.lookup y=some c
 has:∀(m:Nat) y,((relabel scope X.env).names.lookup y=some .cell∨(relabel scope X.env).names.lookup y=some .free)->∃c,(cellsFrom m scope.names cl).lookup y=some c
 nd:(own++fr).Nodup
 len:js.length=fr.length
 newc:∀(m:Nat) y c,(cellsFrom m scope.names []).lookup y=some c->scope.names.lookup y=some .cell
 oldc:∀y c,cl.lookup y=some c->scope.names.lookup y≠some .cell
 fre:∀(k j:Nat) (y:Str),js[k]?=some j->fr[k]?=some y->X.N[j]?=some y∧(X.env.scope.names.lookup y=some .cell∨X.env.scope.names.lookup y=some .free)∧((relabel scope X.env).names.lookup y=some .cell∨(relabel scope X.env).names.lookup y=some .free)∧∃c,cl.lookup y=some c
theorem jM {α:Type}{y:Str}{c:α}:∀ {l m:List (Str×α)},(l++m).lookup y=some c->l.lookup y=some c∨(l.lookup y=none∧m.lookup y=some c)
 |[],_,h=>.inr ⟨rfl,h⟩
 |(k,v)::r,m,h=>by
   rw[List.cons_append,List.lookup_cons] at h
   rw[List.lookup_cons]
   split at h
   ·exact .inl h
   ·exact jM h
theorem iQ {α:Type}{y:Str}:∀ {l m:List (Str×α)},l.lookup y=none->(l++m).lookup y=m.lookup y
 |[],_,_=>rfl
 |(k,v)::r,m,h=>by
   rw[List.lookup_cons] at h
   rw[List.cons_append,List.lookup_cons]
   split at h
   ·cases h
   ·exact iQ h
section
variable{X:Cx}{pins:List (Addr×Obj)}{σ:St}{H:Hp}{s:Shared}{scope:Scope}{cl:List (Str×Addr)}{own:List Str}{js:List Nat}{fr:List Str}{fp:List Addr}{C m:Addr}
theorem wM {hh:Heap} (T:CompG X scope cl own js fr) (I:Inv X pins σ H s) (f:∀ b∈fp,FpOk X pins H b) (hlt:∀ b∈fp,b<s.heap.objs.size) (hC:s.heap.objs.size≤C) (hm:m=hh.objs.size) (hms:s.heap.objs.size≤m) :
  (X.bc pins scope (cellsFrom m scope.names cl) (own++fr) fp C s H).Ok:=by
 have ok:CellsOk (pushCells hh scope.names) m (cellsFrom m scope.names []):=by
  have:=cellsFrom_ok scope.names hh m [] ⟨fun _ _ hm=>(nomatch hm),List.Pairwise.nil⟩ (by rw[hm];exact Nat.le_refl _)
  rw[←hm] at this;exact this
 have hold:∀y c,cl.lookup y=some c->c<s.heap.objs.size:=fun y c e=>by
  obtain⟨v,q⟩:=I.cell y c (T.sub _ _ e)
  exact q.lt
 have spl:∀y c,(cellsFrom m scope.names cl).lookup y=some c->(m≤c∧(cellsFrom m scope.names []).lookup y=some c)∨(cl.lookup y=some c∧c<s.heap.objs.size):=fun y c e=>by
  rw[cj] at e
  rcases jM e with z | ⟨_,z⟩
  ·exact .inl ⟨(ok.empty _ _ (PySem.mem_of_lookup z)).2,z⟩
  ·exact .inr ⟨z,hold _ _ z⟩
 refine⟨I.ok.mod,T.kind,I.ok.glob,I.ok.blt,hC,fun y z c h1 h2=>?_,fun y h=>T.has m y h,fun y c h1 h2=>?_,I.ok.hd,I.ok.frames,.inl rfl,fun b hb=>⟨Nat.ne_of_lt (Nat.lt_of_lt_of_le (hlt b hb) hC),fun y c h=>?_⟩,fun b o e=>I.bs b o e,Nat.le_trans I.ok.bsz I.sz,fun b o e hb=>?_,fun b hb hm'=>?_,I.stack,I.stkFree⟩
 ·rcases spl _ _ h1 with ⟨a1,a2⟩ | ⟨a1,a2⟩
  ·rcases spl _ _ h2 with ⟨b1,b2⟩ | ⟨b1,b2⟩
   ·exact name_of_addr ok.apart (PySem.mem_of_lookup a2) (PySem.mem_of_lookup b2)
   ·exact absurd (Nat.lt_of_lt_of_le b2 hms) (Nat.not_lt.mpr a1)
  ·rcases spl _ _ h2 with ⟨b1,b2⟩ | ⟨b1,b2⟩
   ·exact absurd (Nat.lt_of_lt_of_le a2 hms) (Nat.not_lt.mpr b1)
   ·exact I.ok.inj y z c (T.sub _ _ a1) (T.sub _ _ b1)
 ·rcases spl _ _ h2 with ⟨a1,a2⟩ | ⟨a1,a2⟩
  ·exact Nat.le_trans hms a1
  ·exact absurd (by simpa using h1) (T.oldc _ _ a1)
 ·rcases spl _ _ h with ⟨a1,a2⟩ | ⟨a1,a2⟩
  ·exact fun z=>absurd (Nat.lt_of_lt_of_le (hlt b hb) hms) (Nat.not_lt.mpr (z ▸ a1))
  ·exact (f b hb).2.2.2.2.1 y c (T.sub _ _ a1)
 ·rcases (f b hb).2.2.2.1 with z | z
  ·exact I.ok.noex b o e z
  ·exact absurd (Nat.lt_of_lt_of_le (Heap.lt_size e) I.ok.bsz) (Nat.not_lt.mpr z)
 ·rcases List.mem_cons.mp (I.stkSub b hm') with z | z
  ·exact (f b hb).2.1 z
  ·exact (f b hb).2.2.1 z
theorem pQ {hh h':Heap}{t':Nat}{acc:Addr}{mm:Str->Option Value} (T:CompG X scope cl own js fr) (I:Inv X pins σ H s) (f:∀ b∈fp,FpOk X pins H b) (hlt:∀ b∈fp,b<s.heap.objs.size)
  (k:∀b o,s.heap.get? b=some o->h'.get? b=some o) (ha:s.heap.objs.size≤acc) (hC:s.heap.objs.size≤C) (hne:C≠acc) (hm:m=hh.objs.size) (hms:s.heap.objs.size≤m) (hCm:C<m) (ham:acc<m) (hh':h'=pushCells hh scope.names)
  (new:∃n,h'.get? acc=some { cls:=.type "list",data:=.seq #[] n }) (ns:h'.Ns C mm) :
  Inv (X.bc pins scope (cellsFrom m scope.names cl) (own++fr) fp C s H) [] (List.replicate own.length none++pick js σ) (upd H acc (.lst [])) { s with heap:=h',toks:=t' }:=by
 have ok:CellsOk (pushCells hh scope.names) m (cellsFrom m scope.names []):=by
  have:=cellsFrom_ok scope.names hh m [] ⟨fun _ _ hm=>(nomatch hm),List.Pairwise.nil⟩ (by rw[hm];exact Nat.le_refl _)
  rw[←hm] at this;exact this
 have hold:∀y c,cl.lookup y=some c->c<s.heap.objs.size:=fun y c e=>by
  obtain⟨v,q⟩:=I.cell y c (T.sub _ _ e)
  exact q.lt
 have spl:∀y c,(cellsFrom m scope.names cl).lookup y=some c->(m≤c∧h'.IsCell c none)∨(cl.lookup y=some c∧c<s.heap.objs.size):=fun y c e=>by
  rw[cj] at e
  rcases jM e with z | ⟨_,z⟩
  ·have:=ok.empty _ _ (PySem.mem_of_lookup z)
   exact .inl ⟨this.2,by rw[hh'];exact this.1⟩
  ·exact .inr ⟨z,hold _ _ z⟩
 have hn:H acc=none:=I.hok.fresh ha
 have fC:H C=none:=I.hok.fresh hC
 have ob:ObjOk X.prog X.w (upd H acc (.lst [])) h' acc (.lst []):=by
  obtain⟨n,e⟩:=new
  exact⟨Nat.zero_le _,[],n,.nil,e⟩
 refine⟨wM T I f hlt hC hm hms,rfl,I.bare,Un.laid k ha hn,⟨mm,ns,fun i y v h1 h2 h3=>?_⟩,fun y c e=>?_,by show upd H acc _ C=none;rw[upd_ne hne];exact fC,fun y c e=>?_,fun p hp=>?_,I.hok.laid k ha ob,?_⟩
 ·have h1:(own++fr)[i]?=some y:=h1
  by_cases hi:i<own.length
  ·rw[List.getElem?_append_left (by rw[List.length_replicate];exact hi),List.getElem?_replicate] at h2
   split at h2<;>cases h2
  ·rw [List.getElem?_append_right (by omega)] at h1
   rw[List.getElem?_append_right (by rw[List.length_replicate];omega),List.length_replicate] at h2
   unfold pick at h2
   rw[List.getElem?_map] at h2
   cases hj:js[i-own.length]? with
   |none=>rw[hj] at h2;cases h2
   | some j=>
     rw[hj] at h2
     have h2s:(σ[j]?).getD none=some v:=Option.some.inj h2
     have h2'':σ[j]?=some (some v):=by
      cases z:σ[j]? with
      |none=>rw[z] at h2s;cases h2s
      |some w=>rw[z] at h2s;exact congrArg some h2s
     obtain⟨g1,g2,g3,c,gc⟩:=T.fre _ j y hj h1
     obtain⟨mX,_,hl⟩:=I.loc
     have vis:Vis X.env.scope y:=g2.elim (fun z=>.inr (.inl z)) fun z=>.inr (.inr z)
     obtain⟨u,r,q⟩:=hl j y v g1 h2'' vis
     refine⟨u,r,.inr ⟨g3,c,?_,?_⟩⟩
     ·show (cellsFrom m scope.names cl).lookup y=some c
      rw[cj]
      cases z:(cellsFrom m scope.names []).lookup y with
      |none=>rw[iQ z];exact gc
      |some c'=>exact absurd (T.newc m y c' z) (T.oldc y c gc)
     ·have hc':=T.sub _ _ gc
      rcases q with ⟨q,_⟩ | ⟨_,c2,e2,z⟩
      ·have q:X.env.scope.names.lookup y=some .local:=q
       rcases g2 with g2 | g2<;>(rw[g2] at q;cases q)
      ·rw[hc'] at e2;cases e2
       exact z.keeps k
 ·rcases spl y c e with ⟨_,z⟩ | ⟨z,_⟩
  ·exact⟨_,z⟩
  ·obtain⟨v,q⟩:=I.cell y c (T.sub _ _ z)
   exact⟨v,q.keeps k⟩
 ·rcases spl y c e with ⟨z,_⟩ | ⟨z,lt⟩
  ·show upd H acc _ c=none
   rw[upd_ne (fun (q:c=acc)=>absurd ham (Nat.not_lt.mpr (q ▸ z)))]
   exact I.hok.fresh (Nat.le_trans hms z)
  ·show upd H acc _ c=none
   rw[upd_ne (fun (q:c=acc)=>absurd lt (Nat.not_lt.mpr (q ▸ ha)))]
   exact I.freeC y c (T.sub _ _ z)
 ·have hp':p∈X.pn++pins:=by simpa using hp
  obtain⟨e,n,ne,nf,d⟩:=I.pin p hp'
  refine⟨k _ _ e,?_,Nat.ne_of_lt (Nat.lt_of_lt_of_le (Heap.lt_size e) hC),fun hm=>?_,d⟩
  ·show upd H acc _ p.1=none
   rw[upd_ne (fun z=>absurd (Heap.lt_size e) (by rw[z];exact Nat.not_lt.mpr ha))]
   exact n
  ·rcases List.mem_cons.mp (I.stkSub _ hm) with z | z
   ·exact ne z
   ·exact nf z
 ·show (List.replicate own.length none++pick js σ).length=(own++fr).length
  unfold pick
  rw[List.length_append,List.length_replicate,List.length_map,List.length_append,T.len]
end
section
variable{prog:Program}{w:World}{A:Around}{R:Result->Shared->Prop}{s:Shared}
def pJ(ifs:List Expr)(env:Env):Sem Bool:=forIn ifs true fun c r=>if r=true then do let ok ←isTrue c env (eval c env);pure (ForInStep.yield ok) else pure (ForInStep.yield r)
def turnOf (g:Comprehension) (bodyK:Sem Fin->Sem Fin) (c:Code) (it:Value) (env:Env):Sem Fin:=do
 standAt g.iter.pos
 match ←pyNext it with
 |none=>pure (.done .next)
 |some v=>
   letOwnedTupleGo g.target it v
   assign g.target env v
   let ok ←pJ g.ifs env
   if ok then bodyK (again c) else again c
def oH(elt:Expr)(acc:Value)(env:Env)(k:Sem Fin):Sem Fin:=do
 (do let _ ←call (.builtin "list.append") [acc,←eval elt env])
 k
theorem yu(elt target iter:Expr)(ifs:List Expr)(scope:Scope)(pos:Pos)(it acc:Value)(env:Env) :
  compTurn (.ListComp elt [⟨target,iter,ifs,0⟩] scope pos) 0 it acc env=turnOf ⟨target,iter,ifs,0⟩ (oH elt acc env) (.compLoop (.ListComp elt [⟨target,iter,ifs,0⟩] scope pos) 0 it acc env) it env:=rfl
def nZ(prog:Program)(w:World)(A:Around)(bodyK:Sem Fin->Sem Fin)(W:(Shared->Prop)->Shared->Prop):Prop:=
 ∀(k:Sem Fin) (Q:Fin->Shared->Prop) (E:Value->Shared->Prop) (s:Shared),W (fun s'=>wpAny (model prog w) A k Q E s') s->wpAny (model prog w) A (bodyK k) Q E s
theorem vz{elt:Expr}{acc:Value}{env:Env}:nZ prog w A (oH elt acc env) (fun P s=>wpAny (model prog w) A (eval elt env) (fun x s1=>wpAny (model prog w) A (call (.builtin "list.append") [acc,x]) (fun _ s2=>P s2) (fun _ _=>False) s1) (fun _ _=>False) s):=by
 intro k Q E s h
 unfold oH
 exact wpAny_bind (wpAny_bind (wpAny_mono h (fun x s1 h1=>wpAny_bind (wpAny_mono h1 (fun _ s2 h2=>wpAny_pure h2) fun _ _ z=>z.elim)) fun _ _ z=>z.elim))
theorem xf {elt:Expr}{gens:List Comprehension}{scope:Scope}{pos:Pos}{depth:Nat}{g:Comprehension}{bodyK:Sem Fin->Sem Fin}{W:(Shared->Prop)->Shared->Prop}{it acc:Value}{env:Env} (I:Nat->Shared->Prop)
  (hturn:compTurn (.ListComp elt gens scope pos) depth it acc env=turnOf g bodyK (.compLoop (.ListComp elt gens scope pos) depth it acc env) it env) (hW:nZ prog w A bodyK W)
  (turn:∀ n s,I n s->wpAny (model prog w) A (pyNext it) (fun r s₁=>match r with
    |none=>R (.ok .next) s₁
    |some v=>wpAny (model prog w) A (letOwnedTupleGo g.target it v) (fun _ s₂=>wpAny (model prog w) A (assign g.target env v) (fun _ s₃=>
      wpAny (model prog w) A (pJ g.ifs env) (fun ok s₄=>if ok=true then W (fun s₅=>∃m,m<n∧I m s₅) s₄ else ∃m,m<n∧I m s₄) (fun _ _=>False) s₃) (fun _ _=>False) s₂) (fun _ _=>False) s₁) (fun _ _=>False) s)
  (hmono:∀P P' s,(∀s,P s->P' s)->W P s->W P' s)
  (n:Nat) (h:I n s):codeAny (model prog w) A (.compLoop (.ListComp elt gens scope pos) depth it acc env) R s:=by
 refine codeAny_loop rfl I (fun n s hI=>?_) n h
 show wpAny _ A ((compTurn (.ListComp elt gens scope pos) depth it acc env).onRaise (fun x=>do noteFrame x env;theTreesLotGoes x)) _ _ s
 refine wpAny_noted ?_
 rw[hturn]
 unfold turnOf
 refine wpAny_bind (wpAny_standAt (wpAny_bind (wpAny_mono (turn n s hI) (fun r s₁ h₁=>?_) fun _ _ h'=>h'.elim)))
 cases r with
 |none=>exact wpAny_pure h₁
 | some v=>
   refine wpAny_bind (wpAny_mono h₁ (fun _ s₂ h₂=>wpAny_bind (wpAny_mono h₂ (fun _ s₃ h₃=>wpAny_bind (wpAny_mono h₃ (fun ok s₄ h₄=>?_) fun _ _ h'=>h'.elim)) fun _ _ h'=>h'.elim)) fun _ _ h'=>h'.elim)
   cases ok with
   |false=>
     have h₄:∃m,m<n∧I m s₄:=h₄
     exact wpAny_pure ⟨rfl,h₄⟩
   |true=>
     have h₄:W (fun s₅=>∃m,m<n∧I m s₅) s₄:=h₄
     exact hW _ _ _ _ (hmono _ _ _ (fun s₅ h₅=>wpAny_pure ⟨rfl,h₅⟩) h₄)
theorem p6 {elt:Expr}{gens:List Comprehension}{scope:Scope}{pos:Pos}{depth:Nat}{g:Comprehension}{it acc:Value}{env:Env} (hg:gens[depth]?=some g) (ha:g.is_async=0)
  (h0:codeAny (model prog w) A (.compLoop (.ListComp elt gens scope pos) depth it acc env) R s)
  (h:wpAny (model prog w) A (pyIter it) (fun it' s'=>codeAny (model prog w) A (.compLoop (.ListComp elt gens scope pos) depth it' acc env) R s') (fun _ _=>False) s) :
  codeAny (model prog w) A (.compStart (.ListComp elt gens scope pos) depth it acc env) R s:=by
 refine codeAny_of_tree ?_
 show wpAny _ _ ((compStart (.ListComp elt gens scope pos) depth it acc env).onRaise (fun x=>do noteFrame x env;standAt theWindowsPlace)) _ _ s
 refine wpAny_notedAt ?_
 unfold compStart
 have e1:(((clausesOf (.ListComp elt gens scope pos))[depth]?).elim false (·.is_async != 0))=false:=by
  show ((gens[depth]?).elim false (·.is_async != 0))=false
  rw[hg]
  show (g.is_async != 0)=false
  rw[ha];rfl
 rw[e1]
 simp only[Bool.false_eq_true,if_false,pure_bind]
 refine wpAny_bind (wpAny_askSetting (wpAny_ite ?_))
 split
 ·first
   |exact wpAny_bind (wpAny_pure (wpAny_pure (And.intro rfl h0)))
   |exact wpAny_pure (And.intro rfl h0)
 ·refine wpAny_bind (wpAny_rule ?_)
  have e2:(clausesOf (.ListComp elt gens scope pos))[depth]?=some g:=hg
  rw[e2]
  exact wpAny_bind (wpAny_standAt (wpAny_bind (wpAny_mono h (fun it' s' h'=>wpAny_pure (And.intro rfl h')) fun _ _ x=>x.elim)))
end
section
variable{prog:Program}{w:World}{A:Around}{E:Value->Shared->Prop}{s:Shared}
theorem ux{ia t:Addr}{k:Nat}{its:Array Value}{y:Value}{Q:Value->Shared->Prop}(hi:IsTupIter s.heap ia t k)(ht:IsTup s.heap t its)(hy:its[k]?=some y)
  (hQ:∀h',IsTupIter h' ia t (k+1)->Heap.SameBut ia s.heap h'->Q y { s with heap:=h' }):wpAny (model prog w) A (Builtin.SmallTypes.nextOf (.ref ia)) Q E s:=by
 obtain⟨oi,hoi,hci,hdi⟩:=id hi
 obtain⟨ot,hot,_,nt,hdt⟩:=ht
 unfold Builtin.SmallTypes.nextOf
 refine wpAny_bind (wpAny_callSpecial?_slot (name:=Str.ofString "__next__") hi.typeIs slot_tupleiter_next (wpAny_call_entry slot_tupleiter_next hi.typeIs entry_tupleiter_next ?_ (args_tupleiter_next _)))
 show wpAny _ _ (field (.ref ia) 0>>=_) _ _ s
 refine wpAny_bind (wpAny_field hoi hdi (x:=.ref t) rfl ?_)
 show wpAny _ _ (if (Value.ref t==Value.none)=true then _ else _) _ _ s
 rw[if_neg (fun z:(Value.ref t==Value.none)=true=>Bool.false_ne_true z)]
 show wpAny _ _ (field (.ref ia) 1>>=_) _ _ s
 refine wpAny_bind (wpAny_field hoi hdi (x:=.int k 0) rfl ?_)
 show wpAny _ _ (seqItems? (.ref t)>>=_) _ _ s
 refine wpAny_bind (wpAny_seqItems hot hdt ?_)
 simp only[Int.toNat_natCast,hy]
 refine wpAny_bind (wpAny_setField hoi hdi (by simp) (wpAny_pure ⟨y,rfl,wpAny_pure (hQ _ ⟨_,Heap.get?_update_self _ hoi (Obj.isFreed_of_fields (Obj.data_mapFields hdi _)),(Obj.cls_mapFields ..).trans hci,?_⟩ (Heap.SameBut.update ..))⟩))
 rw[Obj.data_mapFields hdi];simp[rawInt]
theorem rP{ia t:Addr}{k:Nat}{its:Array Value}{Q:Value->Shared->Prop}(hh:A.handled=none)(hi:IsTupIter s.heap ia t k)(ht:IsTup s.heap t its)(hy:its[k]?=none)
  (hE:∀h' e,Heap.ExtBut ia s.heap h'->(∃o,h'.get? e=some o∧o.cls=.type "StopIteration")->E (.ref e) { s with heap:=h' }):wpAny (model prog w) A (Builtin.SmallTypes.nextOf (.ref ia)) Q E s:=by
 obtain⟨oi,hoi,hci,hdi⟩:=id hi
 obtain⟨ot,hot,_,nt,hdt⟩:=ht
 unfold Builtin.SmallTypes.nextOf
 refine wpAny_bind (wpAny_callSpecial?_slot (name:=Str.ofString "__next__") hi.typeIs slot_tupleiter_next (wpAny_call_entry slot_tupleiter_next hi.typeIs entry_tupleiter_next ?_ (args_tupleiter_next _)))
 show wpAny _ _ (field (.ref ia) 0>>=_) _ _ s
 refine wpAny_bind (wpAny_field hoi hdi (x:=.ref t) rfl ?_)
 show wpAny _ _ (if (Value.ref t==Value.none)=true then _ else _) _ _ s
 rw[if_neg (fun z:(Value.ref t==Value.none)=true=>Bool.false_ne_true z)]
 show wpAny _ _ (field (.ref ia) 1>>=_) _ _ s
 refine wpAny_bind (wpAny_field hoi hdi (x:=.int k 0) rfl ?_)
 show wpAny _ _ (seqItems? (.ref t)>>=_) _ _ s
 refine wpAny_bind (wpAny_seqItems hot hdt ?_)
 simp only[Int.toNat_natCast,hy]
 refine wpAny_bind (wpAny_rule (wpAny_bind (wpAny_setField hoi hdi (by simp) ?_)))
 show wpAny _ _ (newExc (.type "StopIteration") ([]:List Value)>>=fun _=>_) _ _ _
 refine wpAny_bind ?_
 simp only[newExc,newTuple]
 refine wpAny_bind (wpAny_newObj_type ?_ (by size_fits:_))
 refine wpAny_bind (m:=firstArgMember _ _) (wpAny_of_eq (a:=Value.none) (by first | rfl | simp only[firstArgMember]) ?_)
 refine wpAny_newObj_type ?_ (by size_fits:_)
 simp only[raiseNew]
 refine wpAny_bind (wpAny_handled ?_)
 first | rw[hh] | rw[show A.in1.handled=none from hh]
 refine wpAny_bind (wpAny_pure (wpAny_throw (hE _ _ (((Heap.SameBut.update ..).extBut.push _).push _) ⟨_,Heap.get?_push_size _ rfl,rfl⟩)))
end
structure SubIt(P:Program)(w:World)(i l:Addr)(its:Array Value)(st:Nat->Heap->Prop):Prop where
 obj:∀k h,st k h->(∃o,h.get? i=some o∧∀v,o.data≠.cell v)∧∃o,h.get? l=some o
 keep:∀k h h',st k h->(∀o,h.get? i=some o->h'.get? i=some o)->(∀o,h.get? l=some o->h'.get? l=some o)->st k h'
 item:∀(A:Around) k (s:Shared) x (Q:Value->Shared->Prop) (E:Value->Shared->Prop),st k s.heap->its[k]?=some x->(∀h',st (k+1) h'->Heap.SameBut i s.heap h'->Q x { s with heap:=h' })->wpAny (model P w) A (Builtin.SmallTypes.nextOf (.ref i)) Q E s
 done:∀(A:Around) k (s:Shared) (Q:Value->Shared->Prop) (E:Value->Shared->Prop),A.handled=none->st k s.heap->its[k]?=none->(∀h' e,Heap.ExtBut i s.heap h'->(∃o,h'.get? e=some o∧o.cls=.type "StopIteration")->E (.ref e) { s with heap:=h' })->wpAny (model P w) A (Builtin.SmallTypes.nextOf (.ref i)) Q E s
theorem zJ{P:Program}{w:World}{i l:Addr}(hne:l≠i)(its:Array Value):SubIt P w i l its (fun k h=>IsTupIter h i l k∧IsTup h l its) where
 obj:=fun k h ⟨⟨o,e,_,d⟩,⟨o',e',_⟩⟩=>⟨⟨o,e,fun v z=>by rw[d] at z;cases z⟩,o',e'⟩
 keep:=fun k h h' ⟨⟨o,e,r⟩,⟨o',e',r'⟩⟩ k1 k2=>⟨⟨o,k1 _ e,r⟩,⟨o',k2 _ e',r'⟩⟩
 item:=fun A k s x Q E st hx hQ=>ux st.1 st.2 hx fun h' h1 h2=>hQ h' ⟨h1,st.2.extBut h2.extBut hne⟩ h2
 done:=fun A k s Q E hh st hx hE=>rP hh st.1 st.2 hx hE
theorem zH{P:Program}{w:World}{i l:Addr}(hne:l≠i)(its:Array Value):SubIt P w i l its (fun k h=>h.IsListIter i l k∧h.IsList l its) where
 obj:=fun k h ⟨⟨o,e,_,d⟩,⟨o',e',_⟩⟩=>⟨⟨o,e,fun v z=>by rw[d] at z;cases z⟩,o',e'⟩
 keep:=fun k h h' ⟨⟨o,e,r⟩,⟨o',e',r'⟩⟩ k1 k2=>⟨⟨o,k1 _ e,r⟩,⟨o',k2 _ e',r'⟩⟩
 item:=fun A k s x Q E st hx hQ=>wpAny_nextOf_list_item st.1 st.2 hx fun h' h1 h2=>hQ h' ⟨h1,st.2.extBut h2.extBut hne⟩ h2
 done:=fun A k s Q E hh st hx hE=>wpAny_nextOf_list_end hh st.1 st.2 hx hE
abbrev rN(h:Heap)(T1:String)(l1:Addr):Heap:=h.push { cls:=.type T1,data:=.fields #[.ref l1,.int 0 0] }
def iD(b:Bool)(h:Heap)(l:Addr)(xs:Array Value):Prop:=if b then IsTup h l xs else h.IsList l xs
def xT(b:Bool)(i l:Addr)(xs:Array Value)(k:Nat)(h:Heap):Prop:=(if b then IsTupIter h i l k else h.IsListIter i l k)∧iD b h l xs
theorem tU{P:Program}{w:World}{i l:Addr}(b:Bool)(hne:l≠i)(its:Array Value):SubIt P w i l its (xT b i l its):=by
 cases b with
 |true=>exact zJ hne its
 |false=>exact zH hne its
theorem iD.lt{b:Bool}{h:Heap}{l:Addr}{xs:Array Value}(q:iD b h l xs):l<h.objs.size:=by
 cases b with
 |true=>obtain⟨o,e,_⟩:=(show IsTup h l xs from q);exact Heap.lt_size e
 |false=>obtain⟨o,e,_⟩:=(show h.IsList l xs from q);exact Heap.lt_size e
theorem iD.keep{b:Bool}{h h':Heap}{l:Addr}{xs:Array Value}(q:iD b h l xs)(k:∀o,h.get? l=some o->h'.get? l=some o):iD b h' l xs:=by
 cases b with
 |true=>obtain⟨o,e,r⟩:=(show IsTup h l xs from q);exact⟨o,k _ e,r⟩
 |false=>obtain⟨o,e,r⟩:=(show h.IsList l xs from q);exact⟨o,k _ e,r⟩
section
variable{X:Cx}{pins:List (Addr×Obj)}{σ:St}{H:Hp}{s:Shared}{h':Heap}
theorem Inv.turnedL{t':Nat}{ch:List Addr}(I:Inv X pins σ H s)(k:∀b o,b∉ch->s.heap.get? b=some o->h'.get? b=some o)(hf:∀b∈ch,FpOk X pins H b)(hL:∀b∈ch,b≠X.env.locals):Inv X pins σ H { s with heap:=h',toks:=t' }:=by
 have nit:∀b u,H b=some u->b∉ch:=fun b u e z=>by have:=(hf b z).1;rw[e] at this;cases this
 refine I.step (g':=s.gens) (d':=s.drawn) (ch:=ch) (fun b hb=>?_) (fun b o _ _ hc e _=>k b o hc e) (fun b o _ _ hc e _=>⟨o.slots,k b o hc e⟩) (fun _ _ _ _ n=>n)
  (fun b o hc e=>⟨o,k b o hc e⟩) (fun _ _ e=>e) (fun _ _ _ e=>e) (fun b ps e=>⟨#[],by rw[e];simp⟩) (fun m hm=>?_) (fun b u e=>?_) I.bare
 ·obtain⟨_,f1,_,f3,f4,f5⟩:=hf b hb
  exact⟨f3,f1,f4,f5⟩
 ·obtain⟨o,es,ep,ho,r⟩:=hm
  exact⟨o,es,ep,k _ o (fun z=>(hL _ z) rfl) ho,r⟩
 ·refine (I.hok b u e).stay (fun c v hc q=>k c v ?_ q) (fun _ q=>q) fun _ _ q=>q
  rcases hc with z | z
  ·rw[z];exact nit b u e
  ·exact nit c _ z
theorem Inv.turnedLay {t':Nat}{ch:List Addr}{p:Addr}{o:HO} (I:Inv X pins σ H s) (k:∀ b o,b∉ch->s.heap.get? b=some o->h'.get? b=some o) (hf:∀ b∈ch,FpOk X pins H b) (hp:s.heap.objs.size≤p) (new:ObjOk X.prog X.w (upd H p o) h' p o):Inv X pins σ (upd H p o) { s with heap:=h',toks:=t' }:=by
 have nit:∀b u,H b=some u->b∉ch:=fun b u e z=>by have:=(hf b z).1;rw[e] at this;cases this
 have hn:H p=none:=I.hok.fresh hp
 have tr:∀b u,H b=some u->upd H p o b=some u:=fun b u e=>by rw[upd_ne (ne_of_none e hn)];exact e
 refine I.step (g':=s.gens) (d':=s.drawn) (ch:=ch) (fun b hb=>?_) (fun b o _ _ hc e _=>k b o hc e) (fun b o _ _ hc e _=>⟨o.slots,k b o hc e⟩) (fun b u _ e n=>by rw[upd_ne (Nat.ne_of_lt (Nat.lt_of_lt_of_le (Heap.lt_size e) hp))];exact n)
  (fun b o hc e=>⟨o,k b o hc e⟩) (fun b xs e=>tr b _ e) (fun b _ _ e=>tr b _ e) (fun b ps e=>⟨#[],by rw[tr b _ e];simp⟩) (fun m hm=>?_) (fun b u e=>?_) I.bare
 ·obtain⟨_,f1,_,f3,f4,f5⟩:=hf b hb
  exact⟨f3,f1,f4,f5⟩
 ·obtain⟨o,es,ep,ho,r⟩:=hm
  exact⟨o,es,ep,k _ o (fun z=>(hf _ z).2.1 rfl) ho,r⟩
 ·by_cases z:b=p
  ·subst z
   rw[upd_same] at e;cases e
   exact new
  ·rw[upd_ne z] at e
   refine (I.hok b u e).stay (fun c v hc q=>k c v ?_ q) (fun c q=>tr c _ q) fun c xs q=>tr c _ q
   rcases hc with y | y
   ·rw[y];exact nit b u e
   ·exact nit c _ y
end
def qz(b:Bool)(K:PySem.W.Frag)(H:Hp)(l:Addr)(xs:List V):Prop:=if b then SqT K H l xs else SqL K H l xs
theorem Inv.seqS{X:Cx}{pins:List (Addr×Obj)}{σ:St}{H:Hp}{s:Shared}{b:Bool}{l:Addr}{xs:List V}(I:Inv X pins σ H s)(h:qz b X.K H l xs):∃its:List Value,Vals xs its∧iD b s.heap l its.toArray∧xs.length≤sizeLine:=by
 cases b with
 |true=>obtain⟨its,r,p,z⟩:=I.tuple (show SqT X.K H l xs from h);exact⟨its,r,p,z⟩
 |false=>obtain⟨its,r,p,z⟩:=I.list (show SqL X.K H l xs from h);exact⟨its,r,p.isList,z⟩
theorem Inv.seqS_inj{X:Cx}{pins:List (Addr×Obj)}{σ:St}{H:Hp}{s:Shared}{b:Bool}{l:Addr}{xs ys:List V}(I:Inv X pins σ H s)(h:qz b X.K H l xs)(q:qz b X.K H l ys):xs=ys:=by
 cases b with
 |true=>exact I.tuple_inj (show SqT X.K H l xs from h) q
 |false=>exact I.list_inj (show SqL X.K H l xs from h) q
def gQ(b:Bool)(i l:Addr)(k:Nat)(h:Heap):Prop:=if b then IsTupIter h i l k else h.IsListIter i l k
theorem gQ.keep{b:Bool}{i l:Addr}{k:Nat}{h h':Heap}(q:gQ b i l k h)(kk:∀o,h.get? i=some o->h'.get? i=some o):gQ b i l k h':=by
 cases b with
 |true=>obtain⟨o,e,r⟩:=(show IsTupIter h i l k from q);exact⟨o,kk _ e,r⟩
 |false=>obtain⟨o,e,r⟩:=(show h.IsListIter i l k from q);exact⟨o,kk _ e,r⟩
theorem gQ.obj{b:Bool}{i l:Addr}{k:Nat}{h:Heap}(q:gQ b i l k h):∃o,h.get? i=some o∧∀v,o.data≠.cell v:=by
 cases b with
 |true=>obtain⟨o,e,_,d⟩:=(show IsTupIter h i l k from q);exact⟨o,e,fun v z=>by rw[d] at z;cases z⟩
 |false=>obtain⟨o,e,_,d⟩:=(show h.IsListIter i l k from q);exact⟨o,e,fun v z=>by rw[d] at z;cases z⟩
theorem qR (l:Addr) (xs:Array Value) :
  Meets (Builtin.«enumerate.__new__» ⟨[.type "enumerate",.ref l],[]⟩) (fun _ R s=>IsTup s.heap l xs ∧
   R (.ok (.ret (.ref (rN s.heap "tuple_iterator" l).objs.size))) { s with heap:=(rN s.heap "tuple_iterator" l).push { cls:=.type "enumerate",data:=.fields #[.none,.bool false,.ref s.heap.objs.size,rawInt 0,.none,.none] } }):=
 .of_wp fun prog w A R s h=>by
  obtain⟨hp,gn,dr,tk,os⟩:=s;obtain⟨k1,h⟩:=h
  have hsub:=sub_enumerate
  have K1:IsTup (Shared.heap ⟨hp,gn,dr,tk,os⟩) l xs:=k1
  obtain⟨ot,hot,r⟩:=id K1
  wp_walk using AutoSeq1.wpAny_loadPart' hot
  refine wpAny_stack_any fun sk=>wpAny_pure ?_
  split
  ·rename_i c _ _ _ _ _
   cases (c==Value.type "enumerate")<;>(wp_walk using AutoSeq1.wpAny_loadPart' hot,iter_tuple K1;exact⟨_,rfl,h⟩)
  ·wp_walk using AutoSeq1.wpAny_loadPart' hot,iter_tuple K1
   exact⟨_,rfl,h⟩
section
variable{P:Program}{w:World}{A:Around}{E:Value->Shared->Prop}{s:Shared}{e it l:Addr}{xs:Array Value}{st:Nat->Heap->Prop}
theorem ue {b:Bool}{Q:Value->Shared->Prop} (k1:iD b s.heap l xs)
  (h:∀h',IsEnum h' (s.heap.objs.size+1) s.heap.objs.size 0 .none->xT b s.heap.objs.size l xs 0 h'->h'.objs.size=s.heap.objs.size+2->(∀c o,s.heap.get? c=some o->h'.get? c=some o)->Q (.ref (s.heap.objs.size+1)) { s with heap:=h' }) :
  wpAny (model P w) A (call (.type "enumerate") [.ref l]) Q E s:=by
 cases b with
 |false=>exact call_enumerate_list (show s.heap.IsList l xs from k1) fun h' a1 a2 a3 a4=>h h' a1 ⟨a2,k1.keep fun o q=>a4 _ _ q⟩ a3 a4
 |true=>
   refine callType_new F.called_enumerate (by decide) (F.typeCall_enumerate_1 _) (F.newCall_enumerate_1 _) (fun obj=>F.args_object_init_2 obj _) F.entry_enumerate_new (qR l xs) ⟨k1,?_⟩
   have z1:(rN s.heap "tuple_iterator" l).objs.size=s.heap.objs.size+1:=Heap.size_push ..
   have up:∀c o,s.heap.get? c=some o->((rN s.heap "tuple_iterator" l).push { cls:=.type "enumerate",data:=.fields #[.none,.bool false,.ref s.heap.objs.size,rawInt 0,.none,.none] }).get? c=some o:=fun c o q=>Heap.get?_push_of_some _ (Heap.get?_push_of_some _ q)
   have q2:((rN s.heap "tuple_iterator" l).push { cls:=.type "enumerate",data:=.fields #[.none,.bool false,.ref s.heap.objs.size,rawInt 0,.none,.none] }).get? (rN s.heap "tuple_iterator" l).objs.size=some _:=Heap.get?_push_size _ rfl
   have q1:((rN s.heap "tuple_iterator" l).push { cls:=.type "enumerate",data:=.fields #[.none,.bool false,.ref s.heap.objs.size,rawInt 0,.none,.none] }).get? s.heap.objs.size=some _:=Heap.get?_push_of_some _ (Heap.get?_push_size _ rfl)
   show _∧_
   rw[z1] at q2 ⊢
   exact⟨⟨_,q2,rfl⟩,h _ q2 ⟨⟨_,q1,rfl,rfl⟩,k1.keep fun o q=>up _ _ q⟩ (by rw[Heap.size_push,z1]) up⟩
theorem ur {i:Nat}{x old:Value}{Q:Value->Shared->Prop} (S:SubIt P w it l xs st) (ne:e≠it) (nl:l≠e) (he:IsEnum s.heap e it i old) (h0:st i s.heap) (hx:xs[i]?=some x)
  (hQ:∀h',IsEnumOut h' e it ((i:Int)+1) x s.heap.objs.size->st (i+1) h'->IsPair h' s.heap.objs.size (.int i s.toks) x->h'.objs.size=s.heap.objs.size+1->
    (∀c o,c≠e->c≠it->s.heap.get? c=some o->h'.get? c=some o)->Q (.ref s.heap.objs.size) { s with heap:=h',toks:=s.toks+1 }) :
  wpAny (model P w) A (Builtin.«enumerate.__next__» ⟨[.ref e],[]⟩) (fun fin s'=>∃v,fin=.done (.ret v)∧Q v s') E s:=by
 obtain⟨hp,gn,dr,tk,os⟩:=s
 show wpAny _ _ (field (.ref e) 2>>=fun _=>_) _ _ _
 refine wpAny_bind (wpAny_field he rfl (x:=.ref it) rfl (show _ from ?_))
 refine wpAny_bind (S.item _ i _ x _ _ h0 hx fun g1 n1 e1=>(show _ from ?_))
 replace e1:Heap.SameBut it hp g1:=e1
 have c1:IsEnum g1 e it i old:=e1.extBut _ _ ne he
 show wpAny _ _ (field (.ref e) 3>>=fun _=>_) _ _ ⟨g1,gn,dr,tk,os⟩
 refine wpAny_bind (wpAny_field c1 rfl (x:=rawInt i) rfl (show _ from ?_))
 show wpAny _ _ (field (.ref e) 4>>=fun _=>_) _ _ ⟨g1,gn,dr,tk,os⟩
 refine wpAny_bind (wpAny_field c1 rfl (x:=.none) rfl (show _ from ?_))
 show wpAny _ _ (mkInt i>>=fun _=>_) _ _ ⟨g1,gn,dr,tk,os⟩
 refine wpAny_bind (wpAny_mkInt (show _ from ?_))
 show wpAny _ _ (setField (.ref e) 3 (rawInt ((i:Int)+1))>>=fun _=>_) _ _ ⟨g1,gn,dr,tk+1,os⟩
 refine wpAny_bind (wpAny_setField_rec c1 (by simp) fun g2 c2 e2=>?_)
 replace e2:Heap.SameBut e g1 g2:=e2
 replace c2:IsEnum g2 e it ((i:Int)+1) old:=c2
 show wpAny _ _ (setField (.ref e) 4 .none>>=fun _=>_) _ _ ⟨g2,gn,dr,tk+1,os⟩
 refine wpAny_bind (wpAny_setField_rec c2 (by simp) fun g3 c3 e3=>?_)
 replace e3:Heap.SameBut e g2 g3:=e3
 replace c3:IsEnum g3 e it ((i:Int)+1) old:=c3
 show wpAny _ _ (newTuple [.int i tk,x]>>=fun _=>_) _ _ ⟨g3,gn,dr,tk+1,os⟩
 refine wpAny_bind (wpAny_newTuple (show _ from ?_))
 have c4:IsEnum (g3.push { cls:=.type "tuple",data:=.seq #[.int i tk,x] }) e it ((i:Int)+1) old:=Heap.get?_push_of_some _ c3
 have sz:g3.objs.size=hp.objs.size:=by rw[e3.1,e2.1,e1.1]
 have el:e<hp.objs.size:=Heap.lt_size he
 have t4:IsPair (g3.push { cls:=.type "tuple",data:=.seq #[.int i tk,x] }) hp.objs.size (.int i tk) x:=by rw[←sz];exact Heap.get?_push_size _ rfl
 have z4:(g3.push { cls:=.type "tuple",data:=.seq #[.int i tk,x] }).objs.size=hp.objs.size+1:=by rw[Heap.size_push,sz]
 have k4:∀c o,c≠e->c≠it->hp.get? c=some o->(g3.push { cls:=.type "tuple",data:=.seq #[.int i tk,x] }).get? c=some o:=fun c o a1 a2 q=>Heap.get?_push_of_some _ (e3.extBut _ _ a1 (e2.extBut _ _ a1 (e1.extBut _ _ a2 q)))
 have n4:st (i+1) (g3.push { cls:=.type "tuple",data:=.seq #[.int i tk,x] }):=S.keep _ _ _ n1 (fun o q=>Heap.get?_push_of_some _ (e3.extBut _ _ ne.symm (e2.extBut _ _ ne.symm q))) fun o q=>Heap.get?_push_of_some _ (e3.extBut _ _ nl (e2.extBut _ _ nl q))
 revert c4 t4 z4 k4 n4
 generalize g3.push { cls:=.type "tuple",data:=.seq #[.int i tk,x] }=g4
 intro c4 t4 z4 k4 n4
 show wpAny _ _ (Builtin.SmallTypes.ownedTupleIsFree (.ref e)>>=fun _=>_) _ _ ⟨g4,gn,dr,tk+1,os⟩
 rw[sz]
 refine wpAny_bind ?_
 unfold Builtin.SmallTypes.ownedTupleIsFree
 refine wpAny_bind (wpAny_field c4 rfl (x:=.none) rfl (wpAny_pure (show _ from ?_)))
 simp only[if_true]
 refine wpAny_bind (wpAny_rule (show _ from ?_))
 refine wpAny_bind (wpAny_field c4 rfl (x:=old) rfl (show _ from ?_))
 refine wpAny_bind (wpAny_setField_rec c4 (by simp) fun g5 c5 e5=>?_)
 replace e5:Heap.SameBut e g4 g5:=e5
 replace c5:IsEnum g5 e it ((i:Int)+1) x:=c5
 show wpAny _ _ (Builtin.SmallTypes.ownedTupleHandOut (.ref e) (.ref hp.objs.size)>>=fun _=>_) _ _ ⟨g5,gn,dr,tk+1,os⟩
 refine wpAny_bind ?_
 unfold Builtin.SmallTypes.ownedTupleHandOut
 refine wpAny_bind (wpAny_setField_rec c5 (by simp) fun g6 c6 e6=>?_)
 replace e6:Heap.SameBut e g5 g6:=e6
 replace c6:IsEnumOut g6 e it ((i:Int)+1) x hp.objs.size:=c6
 refine wpAny_setField_rec c6 (by simp) fun g7 c7 e7=>?_
 replace e7:Heap.SameBut e g6 g7:=e7
 replace c7:IsEnumOut g7 e it ((i:Int)+1) x hp.objs.size:=c7
 have up:∀c o,c≠e->g4.get? c=some o->g7.get? c=some o:=fun c o a1 q=>e7.extBut _ _ a1 (e6.extBut _ _ a1 (e5.extBut _ _ a1 q))
 refine wpAny_bind (wpAny_letGo (wpAny_pure ⟨_,rfl,hQ g7 c7 ?_ (up _ _ (Nat.ne_of_gt el) t4) (by rw[e7.1,e6.1,e5.1,z4]) fun c o a1 a2 q=>up _ _ a1 (k4 _ _ a1 a2 q)⟩))
 exact S.keep _ _ _ n4 (fun o q=>up _ _ ne.symm q) fun o q=>up _ _ nl q
theorem q9 {i:Nat}{x old:Value}{Q:Option Value->Shared->Prop} (S:SubIt P w it l xs st) (ne:e≠it) (nl:l≠e) (he:IsEnum s.heap e it i old) (h0:st i s.heap) (hx:xs[i]?=some x)
  (hQ:∀h',IsEnumOut h' e it ((i:Int)+1) x s.heap.objs.size->st (i+1) h'->IsPair h' s.heap.objs.size (.int i s.toks) x->h'.objs.size=s.heap.objs.size+1->
    (∀c o,c≠e->c≠it->s.heap.get? c=some o->h'.get? c=some o)->Q (some (.ref s.heap.objs.size)) { s with heap:=h',toks:=s.toks+1 }):wpAny (model P w) A (pyNext (.ref e)) Q E s:=by
 have T:s.TypeIs (.ref e) "enumerate":=⟨_,he,rfl⟩
 unfold pyNext
 exact wpAny_bind (wpAny_attempt (wpAny_callSpecial?_slot (name:=Str.ofString "__next__") T F.slot_enumerate_next (wpAny_call_entry F.slot_enumerate_next T F.entry_enumerate_next (ur S ne nl he h0 hx fun h' a b c d k=>wpAny_pure (hQ h' a b c d k)) (F.args_enumerate_next_1 _))))
theorem qZ{i:Nat}{old:Value}{Q:Option Value->Shared->Prop}(hh:A.handled=none)(S:SubIt P w it l xs st)(he:IsEnum s.heap e it i old)(h0:st i s.heap)(hx:xs[i]?=none)
  (hQ:∀h',Heap.ExtBut it s.heap h'->Q none { s with heap:=h' }):wpAny (model P w) A (pyNext (.ref e)) Q E s:=by
 have T:s.TypeIs (.ref e) "enumerate":=⟨_,he,rfl⟩
 unfold pyNext
 refine wpAny_bind (wpAny_attempt (wpAny_callSpecial?_slot (name:=Str.ofString "__next__") T F.slot_enumerate_next (wpAny_call_entry F.slot_enumerate_next T F.entry_enumerate_next (show _ from ?_) (F.args_enumerate_next_1 _))))
 show wpAny _ _ (field (.ref e) 2>>=fun _=>_) _ _ _
 refine wpAny_bind (wpAny_field he rfl (x:=.ref it) rfl (show _ from ?_))
 refine wpAny_bind (S.done _ i _ _ _ (show A.in1.handled=none from hh) h0 hx fun h' y e1 hy=>?_)
 obtain⟨o,ho,hc⟩:=hy
 exact wpAny_bind (wpAny_isInstance (T := "StopIteration") (b:=true) ⟨o,ho,hc⟩ isSubtype_stop (wpAny_pure (hQ _ e1)))
end
def De(K:PySem.W.Frag)(b:Bool)(l:Addr):It:=
 ⟨fun i H=>∃xs x,qz b K H l xs∧xs[i]?=some x,
  fun i H v H'=>∃p,H p=none∧v=.ref p∧∀xs,qz b K H l xs->∃x,xs[i]?=some x∧H'=upd H p (.tup [.int (i:Int),x]),
  fun i H=>∃xs,qz b K H l xs∧xs[i]?=none⟩
theorem wC {P:Program}{w:World}{K:PySem.W.Frag}{elts:List Expr}{x1}{tp:Pos}{b:Bool}{e it l:Addr} (ne:e≠it) (nl:l≠e) (ni:l≠it) :
  Turn P w K (.Tuple elts x1 tp) (De K b l) [e,it] e (fun i h=>(∃old,IsEnum h e it i old)∧gQ b it l i h) where
 mem:=by simp
 obj:=fun i h st c hc=>by
  obtain⟨⟨old,he⟩,h1⟩:=st
  simp only[List.mem_cons,List.mem_nil_iff,or_false] at hc
  rcases hc with rfl | rfl
  ·exact⟨_,he,fun v q=>by cases q⟩
  ·exact h1.obj
 keep:=fun i h h' st k=>by
  obtain⟨⟨old,he⟩,h1⟩:=st
  exact⟨⟨old,k e (by simp) _ he⟩,h1.keep fun o q=>k it (by simp) o q⟩
 item:=by
  intro X hP hw hK hc i pins s σ H E I hf st hg
  subst hP hw hK
  obtain⟨⟨old,he⟩,h1⟩:=st
  obtain⟨xs,x,s1,hx⟩:=hg
  obtain⟨its1,r1,q1,_⟩:=I.seqS s1
  obtain⟨u1,e1,ru1⟩:=r1.get hx
  refine q9 (tU b ni its1.toArray) ne nl he ⟨h1,q1⟩ (by simpa using e1) fun h' a1 a2 a3 a4 a5=>⟨_,rfl,wpAny_letOwnedTupleGo_enum a1 fun h2' he' hs'=>?_⟩
  have lt:e<s.heap.objs.size:=Heap.lt_size he
  have kk:∀c o,c∉[e,it]->s.heap.get? c=some o->h2'.get? c=some o:=fun c o hb q=>hs'.extBut _ _ (fun z=>hb (by simp[z])) (a5 c o (fun z=>hb (by simp[z])) (fun z=>hb (by simp[z])) q)
  have fresh:H s.heap.objs.size=none:=I.hok.fresh (Nat.le_refl _)
  have pr:IsPair h2' s.heap.objs.size (.int i s.toks) u1:=hs'.extBut _ _ (Nat.ne_of_gt lt) a3
  have nw:ObjOk X.prog X.w (upd H s.heap.objs.size (.tup [.int (i:Int),x])) h2' s.heap.objs.size (.tup [.int (i:Int),x]):=⟨by show 2≤sizeLine;decide,[.int i s.toks,u1],.cons ⟨_,rfl⟩ (.cons ru1 .nil),⟨_,pr,rfl,_,rfl⟩⟩
  have nfp:∀c∈[e,it],c≠s.heap.objs.size:=fun c hc z=>by
   obtain⟨o,ho⟩:∃o,s.heap.get? c=some o:=by
    simp only[List.mem_cons,List.mem_nil_iff,or_false] at hc
    rcases hc with rfl | rfl
    ·exact⟨_,he⟩
    ·obtain⟨o,q,_⟩:=h1.obj;exact⟨o,q⟩
   exact absurd (Heap.lt_size ho) (by rw[z];exact Nat.lt_irrefl _)
  refine⟨.ref s.heap.objs.size,upd H s.heap.objs.size (.tup [.int (i:Int),x]),?_,rfl,⟨_,fresh,rfl,fun xs' q1'=>⟨x,by rw[I.seqS_inj q1' s1];exact hx,rfl⟩⟩,⟨⟨_,he'⟩,(show gQ b it l (i+1) h' from a2.1).keep fun o q=>hs'.extBut _ _ ne.symm q⟩,fun c hc=>by rw[upd_ne (nfp c hc)];exact (hf c hc).1⟩
  exact I.turnedLay (t':=s.toks+1) kk hf (Nat.le_refl _) nw
 done:=by
  intro X hP hw hK hc i pins s σ H E I hf st hg
  subst hP hw hK
  obtain⟨⟨old,he⟩,h1⟩:=st
  obtain⟨xs,s1,hend⟩:=hg
  obtain⟨its1,r1,q1,_⟩:=I.seqS s1
  refine qZ (I.ok.hd hc) (tU b ni its1.toArray) he ⟨h1,q1⟩ (by simpa using r1.none_of hend) fun h' e1=>?_
  exact⟨rfl,I.turnedL (t':=s.toks) (fun c o hb q=>e1 _ _ (fun z=>hb (by simp[z])) q) hf (fun c hc=>(hf c hc).2.1)⟩
 self:=fun _ _ _ _ _ st h=>by obtain⟨⟨old,he⟩,_⟩:=st;exact wpAny_pyIter_enum he h
theorem ud:bootBuiltins "list"=some (.type "list"):=by decide +kernel
theorem p7:∀ (vs:List Value) (k:Nat),(∀ (j:Nat) v,vs[j]?=some v->∃ t,v=.int ((k + j:Nat):Int) t)->Vals ((List.range' k vs.length).map fun i:Nat=>V.int (i:Int)) vs
 |[],k,_=>.nil
 | v::vs,k,h=>by
   have h0:=h 0 v rfl
   have ih:=p7 vs (k+1) fun j u e=>by
    have:=h (j+1) u (by simpa using e)
    rw[show k+1+j=k+(j+1) by omega];exact this
   rw[List.length_cons,List.range'_succ,List.map_cons]
   exact .cons h0 ih
section
variable{X:Cx}
def CQ(ta:TA):TE:=fun σ H Q=>ta σ H fun vs H1=>∃j:Int,vs=[.int j]∧j≤2^20∧-(2^62)≤j∧∀l,H1 l=none->Q (.ref l) (upd H1 l (.lst ((List.range j.toNat).map fun i:Nat=>V.int (i:Int))))
theorem vQ {a:Expr}{ta:TA}{p1 p2 pos1 pos2:Pos} (hc:X.calm=true) (hgL:Gl X "list") (hmL:X.mg "list"=none) (hg:Gl X "range") (hm:X.mg "range"=none) (ha:PA X [a] ta) (hs:notStar a=true:=by rfl) :
  PE X (.Call (.Name "list" p1) [.Call (.Name "range" p2) [a] [] pos2] [] pos1) (CQ ta):=by
 intro pins s σ H Q I h
 have hst:starEach [Expr.Call (.Name "range" p2) [a] [] pos2] X.env=(false,eval (.Call (.Name "range" p2) [a] [] pos2) X.env)::starEach [] X.env:=bK rfl
 refine Call_ (ld_blt I hgL hmL ud (PyProof.Rows.callWith_type1 ?_ hst rfl))
 rw[hst]
 show wpAny _ _ (spliced ((false,eval (.Call (.Name "range" p2) [a] [] pos2) X.env)::[])) _ _ s
 refine Calls.spliced_cons ?_
 refine Call_ (ld_blt I hg hm boot_range (PyProof.Rows.callWith_type1 (thn (ha pos2 pins s σ H _ I h) fun us s1 ⟨vs,H1,I1,r1,q1⟩=>?_) (bK hs) rfl))
 obtain⟨j,e,q1,q2,q⟩:=q1
 subst e
 cases r1 with
 | cons r rr=>
   cases rr
   obtain⟨t,rfl⟩:=r
   refine call_range_1 ?_
   refine Calls.spliced_nil ?_
   have rs:Builtin.Range.rangeSize 0 j 1=((j.toNat:Nat):Int):=by rw[rangeSize_one];split<;>omega
   refine call_list_range (n:=j.toNat) (I1.ok.hd hc) (IsRange.new ..) (small_one (by omega) (by omega) q2 (by omega)) rs (by omega) fun h' tk acc c k1 k2 k3=>?_
   have vl:Vals ((List.range j.toNat).map fun i:Nat=>V.int (i:Int)) acc.toList:=by
    have:=p7 acc.toList 0 fun i v e=>by
     obtain⟨t,rfl⟩:=k3.2 i v (by simpa using e)
     exact⟨t,by congr 1;omega⟩
    rw[List.range_eq_range']
    rw[show acc.toList.length=j.toNat by simpa using k3.1] at this
    exact this
   refine⟨.ref _,upd H1 _ (.lst ((List.range j.toNat).map fun i:Nat=>V.int (i:Int))),?_,rfl,q _ (I1.hok.fresh ?_)⟩
   ·refine I1.turnedLay (ch:=[]) (t':=tk) (fun b o _ e=>k1 b o (Heap.get?_push_of_some _ e)) (fun b hb=>nomatch hb) ?_ ⟨?_,acc.toList,c,vl,k2⟩
    ·rw[Heap.size_push];omega
    ·rw[List.length_map,List.length_range];show _≤2^24;omega
   ·rw[Heap.size_push];omega
end
end L2
namespace L2
open PySem PySem.Spec PyProof.Rows
open PySem.AutoSeq1 (wpAny_loadPart')
open PySem PySem.Spec PyProof.Rows
end L2
namespace LS
open PySem
end LS
namespace LS
open PySem PySem.Spec PyProof.Rows
end LS
namespace L2
open PySem PySem.Spec PyProof.Rows LS
end L2
namespace LS
open PySem PySem.Spec PyProof.Rows
end LS
namespace L2
open PySem PySem.Spec PyProof.Rows LS
end L2
namespace LB
open PySem PySem.W PyProof.Rows
end LB
namespace LB
open PySem PySem.W PySem.Calls PyProof.Rows
end LB
namespace L2
open PySem PySem.Spec PyProof.Rows LS LB
end L2
namespace LB
open PySem PySem.W PySem.Calls PyProof.Rows
end LB
namespace L2
open PySem PySem.Spec PyProof.Rows LS LB
end L2
namespace LA
open PySem LS
end LA
namespace LA
open PySem LS PyProof.Rows
end LA
namespace L2
open PySem PySem.Spec PyProof.Rows LS LA LB
end L2
namespace LA
open PySem PySem.Spec PyProof.Rows LS LB
end LA
namespace L2
open PySem PySem.Spec PyProof.Rows LS LA LB
end L2
namespace LA
open PySem PySem.Spec PyProof.Rows LS
end LA
namespace L3
open PySem PySem.Spec L2
open PyProof.Rows hiding St
inductive D where
 |non | bl (b:Bool) | int (i:Int) | str (x:Str)
 |tup (l:List D) | lst (l:List D)
 |dic (ks:List Key) (vs:List D)
 |obj (c:Str) (ns:List Str) (vs:List D)
 |scr (ns:List Int)
 |ref (n:Nat)
 |cls (c:Str) | ty (t:String)
 |exn (a:Addr)
instance:Inhabited D:=⟨.non⟩
inductive DO where
 |lst (l:List D)
 |dic (ks:List Key) (vs:List D)
 |ins (c:Str) (ns:List Str) (vs:List D)
abbrev Mo:=List DO
inductive R(α:Type) where
 |ok (a:α) | exc (c:Str)
def DM(α:Type):=Mo->Option (R α×Mo)
@[reducible] def DM.pure{α:Type}(a:α):DM α:=fun M=>some (.ok a,M)
def DM.bind{α β:Type}(m:DM α)(f:α->DM β):DM β:=fun M=>match m M with
 |none=>none
 |some (.exc c,M')=>some (.exc c,M')
 |some (.ok a,M')=>f a M'
instance:Monad DM where
 pure:=DM.pure
 bind:=DM.bind
def rd{α:Type}(f:Mo->Option α):DM α:=fun M=>(f M).map fun a=>(.ok a,M)
def opt{α:Type}(o:Option α):DM α:=fun M=>o.map fun a=>(.ok a,M)
def stuck{α:Type}:DM α:=fun _=>none
def raise{α:Type}(c:Str):DM α:=fun M=>some (.exc c,M)
abbrev aa:=List (Option D)
structure Rh where
 st:List Addr
 vo:List Addr
instance:Membership Addr Rh:=⟨fun ρ a=>a∈ρ.st∨a∈ρ.vo⟩
def Rh.put(ρ:Rh)(p:Addr):Rh:=⟨ρ.st++[p],ρ.vo⟩
def Rh.hold(ρ:Rh)(p:Addr):Rh:=⟨ρ.st,p::ρ.vo⟩
mutual
inductive Cv(mg:Str->Option Value)(ρ:Rh)(H:Hp):V->D->Prop
 |non:Cv mg ρ H .non .non
 |bl (b:Bool):Cv mg ρ H (.bl b) (.bl b)
 |int (i:Int):Cv mg ρ H (.int i) (.int i)
 |str (x:Str):Cv mg ρ H (.str x) (.str x)
 |tup {a:Addr}{xs:List V}{ds:List D}:a∉ρ->H a=some (.tup xs)->Cvs mg ρ H xs ds->Cv mg ρ H (.ref a) (.tup ds)
 |lst {a:Addr}{xs:List V}{ds:List D}:a∉ρ->H a=some (.lst xs)->Cvs mg ρ H xs ds->Cv mg ρ H (.ref a) (.lst ds)
 |dic {a:Addr}{ks:List Key}{xs:List V}{ds:List D}:a∉ρ->H a=some (.dK (ks.zip xs))->ks.length=xs.length->Cvs mg ρ H xs ds->Cv mg ρ H (.ref a) (.dic ks ds)
 |obj {a C dx:Addr}{c:Str}{ns:List Str}{xs:List V}{ds:List D}:a∉ρ->mg c=some (.ref C)->H a=some (.ins C dx (ns.zip xs))->ns.length=xs.length->Cvs mg ρ H xs ds->Cv mg ρ H (.ref a) (.obj c ns ds)
 |scr {a:Addr}{ns:List Int}:a∉ρ->Rd H a (.lst (ns.map V.int))->Cv mg ρ H (.ref a) (.scr ns)
 |ref {n:Nat}{a:Addr}:ρ.st[n]?=some a->Cv mg ρ H (.ref a) (.ref n)
 |cls {c:Str}{C:Addr}:mg c=some (.ref C)->Cv mg ρ H (.ref C) (.cls c)
 |ty (t:String):Cv mg ρ H (.ty t) (.ty t)
 |exn (a:Addr):Cv mg ρ H (.ref a) (.exn a)
inductive Cvs(mg:Str->Option Value)(ρ:Rh)(H:Hp):List V->List D->Prop
 |nil:Cvs mg ρ H [] []
 |cons {v:V}{d:D}{vs:List V}{ds:List D}:Cv mg ρ H v d->Cvs mg ρ H vs ds->Cvs mg ρ H (v::vs) (d::ds)
end
structure Ext(ρ:Rh)(H:Hp)(ρ':Rh)(H':Hp):Prop where
 pre:∃τ,ρ'.st=ρ.st++τ
 vo:ρ'.vo=ρ.vo
 new:∀a,a∈ρ'.st->a∉ρ.st->H a=none
 keep:∀a o,H a=some o->a∉ρ.st->H' a=some o
theorem Ext.refl{ρ:Rh}{H:Hp}:Ext ρ H ρ H:=⟨⟨[],by simp⟩,rfl,fun a h n=>absurd h n,fun _ _ h _=>h⟩
theorem Ext.keeps{ρ ρ':Rh}{H H':Hp}(e:Ext ρ H ρ' H'){a:Addr}{o:HO}(h:H a=some o)(n:a∉ρ):H' a=some o:=e.keep a o h fun z=>n (.inl z)
theorem Ext.out1{ρ ρ':Rh}{H H':Hp}(e:Ext ρ H ρ' H'){a:Addr}{o:HO}(h:H a=some o)(n:a∉ρ.st):a∉ρ'.st:=fun z=>by
 have:=e.new a z n
 rw[h] at this;cases this
theorem Ext.out{ρ ρ':Rh}{H H':Hp}(e:Ext ρ H ρ' H'){a:Addr}{o:HO}(h:H a=some o)(n:a∉ρ):a∉ρ':=fun z=>by
 rcases z with z | z
 ·exact e.out1 h (fun y=>n (.inl y)) z
 ·rw[e.vo] at z;exact n (.inr z)
theorem Ext.trans {ρ ρ1 ρ2:Rh}{H H1 H2:Hp} (e:Ext ρ H ρ1 H1) (f:Ext ρ1 H1 ρ2 H2):Ext ρ H ρ2 H2:=by
 refine⟨?_,f.vo.trans e.vo,fun a h n=>?_,fun a o h n=>f.keep a o (e.keep a o h n) (e.out1 h n)⟩
 ·obtain⟨τ,h1⟩:=e.pre
  obtain⟨υ,h2⟩:=f.pre
  exact⟨τ++υ,by rw[h2,h1,List.append_assoc]⟩
 ·by_cases z:a∈ρ1.st
  ·exact e.new a z n
  ·cases q:H a with
   |none=>rfl
   |some o=>
     have:=f.new a h z
     rw[e.keep a o q n] at this;cases this
theorem Ext.at{ρ ρ':Rh}{H H':Hp}(e:Ext ρ H ρ' H'){n:Nat}{a:Addr}(h:ρ.st[n]?=some a):ρ'.st[n]?=some a:=by
 obtain⟨τ,h1⟩:=e.pre
 rw[h1,List.getElem?_append_left (List.getElem?_eq_some_iff.mp h).1];exact h
theorem Rh.nhold{ρ:Rh}{a p:Addr}(h:a∉ρ)(n:a≠p):a∉ρ.hold p:=fun z=>by
 rcases z with z | z
 ·exact h (.inl z)
 ·rcases List.mem_cons.mp z with z | z
  ·exact n z
  ·exact h (.inr z)
theorem Rd.some{H:Hp}{a:Addr}{u:HO}(h:Rd H a u):∃o,H a=some o:=by
 rcases h with h | ⟨o,h⟩
 ·exact⟨_,h⟩
 ·exact⟨_,h⟩
section
variable{mg:Str->Option Value}{ρ ρ':Rh}{H H':Hp}
mutual
theorem Cv.mono (e:Ext ρ H ρ' H'):∀ {v:V}{d:D},Cv mg ρ H v d->Cv mg ρ' H' v d
 |_,_,.non=>.non
 |_,_,.bl b=>.bl b
 |_,_,.int i=>.int i
 |_,_,.str x=>.str x
 |_,_,.tup n h c=>.tup (e.out h n) (e.keeps h n) (Cvs.mono e c)
 |_,_,.lst n h c=>.lst (e.out h n) (e.keeps h n) (Cvs.mono e c)
 |_,_,.dic n h l c=>.dic (e.out h n) (e.keeps h n) l (Cvs.mono e c)
 |_,_,.obj n m h l c=>.obj (e.out h n) m (e.keeps h n) l (Cvs.mono e c)
 |_,_,.scr n h=>.scr (by obtain⟨o,q⟩:=Rd.some h;exact e.out q n) (by
   rcases h with h | ⟨o,h⟩
   ·exact .inl (e.keeps h n)
   ·exact .inr ⟨o,e.keeps h n⟩)
 |_,_,.ref h=>.ref (e.at h)
 |_,_,.cls h=>.cls h
 |_,_,.ty t=>.ty t
 |_,_,.exn a=>.exn a
theorem Cvs.mono(e:Ext ρ H ρ' H'):∀{vs:List V}{ds:List D},Cvs mg ρ H vs ds->Cvs mg ρ' H' vs ds
 |_,_,.nil=>.nil
 |_,_,.cons h t=>.cons (Cv.mono e h) (Cvs.mono e t)
end
theorem Cvs.len:∀{vs:List V}{ds:List D},Cvs mg ρ H vs ds->vs.length=ds.length
 |_,_,.nil=>rfl
 |_,_,.cons _ t=>by rw[List.length_cons,List.length_cons,Cvs.len t]
theorem Cvs.append:∀{vs us:List V}{ds es:List D},Cvs mg ρ H vs ds->Cvs mg ρ H us es->Cvs mg ρ H (vs++us) (ds++es)
 |_,_,_,_,.nil,h=>h
 |_,_,_,_,.cons a b,h=>.cons a (Cvs.append b h)
theorem Cvs.take:∀{vs:List V}{ds:List D} (n:Nat),Cvs mg ρ H vs ds->Cvs mg ρ H (vs.take n) (ds.take n)
 |_,_,0,_=>by simp only[List.take_zero];exact .nil
 |_,_,n+1,.nil=>by simp only[List.take_nil];exact .nil
 |_,_,n+1,.cons a b=>by simp only[List.take_succ_cons];exact .cons a (Cvs.take n b)
theorem Cvs.drop:∀{vs:List V}{ds:List D} (n:Nat),Cvs mg ρ H vs ds->Cvs mg ρ H (vs.drop n) (ds.drop n)
 |_,_,0,h=>by simp only[List.drop_zero];exact h
 |_,_,n+1,.nil=>by simp only[List.drop_nil];exact .nil
 |_,_,n+1,.cons a b=>by simp only[List.drop_succ_cons];exact Cvs.drop n b
theorem Cvs.get:∀ {vs:List V}{ds:List D}{i:Nat}{d:D},Cvs mg ρ H vs ds->ds[i]?=some d->∃ v,vs[i]?=some v∧Cv mg ρ H v d
 |_,_,i,_,.nil,e=>by simp at e
 |_,_,0,_,.cons h _,e=>by simp at e;subst e;exact⟨_,rfl,h⟩
 |_,_,i+1,_,.cons _ t,e=>by
   obtain⟨v,q,c⟩:=Cvs.get (i:=i) t (by simpa using e)
   exact⟨v,by simpa using q,c⟩
theorem Cvs.set{v:V}{d:D}(h:Cv mg ρ H v d):∀{vs:List V}{ds:List D} (i:Nat),Cvs mg ρ H vs ds->Cvs mg ρ H (vs.set i v) (ds.set i d)
 |_,_,_,.nil=>.nil
 |_,_,0,.cons _ t=>.cons h t
 |_,_,i+1,.cons a t=>.cons a (Cvs.set h i t)
theorem Cvs.reverse:∀{vs:List V}{ds:List D},Cvs mg ρ H vs ds->Cvs mg ρ H vs.reverse ds.reverse
 |_,_,.nil=>.nil
 |_,_,.cons a t=>by simp only[List.reverse_cons];exact (Cvs.reverse t).append (.cons a .nil)
def kh(mg:Str->Option Value)(ρ:Rh)(H:Hp)(a:Addr):DO->Prop
 |.lst l=>∃xs,H a=some (.lst xs)∧Cvs mg ρ H xs l
 |.dic ks l=>∃xs,H a=some (.dK (ks.zip xs))∧ks.length=xs.length∧Cvs mg ρ H xs l
 |.ins c ns l=>∃C dx xs,mg c=some (.ref C)∧H a=some (.ins C dx (ns.zip xs))∧ns.length=xs.length∧Cvs mg ρ H xs l
theorem kh.some{a:Addr}{o:DO}(h:kh mg ρ H a o):∃u,H a=some u:=by
 cases o with
 |lst l=>obtain⟨xs,h,_⟩:=h;exact⟨_,h⟩
 |dic ks l=>obtain⟨xs,h,_⟩:=h;exact⟨_,h⟩
 |ins c ns l=>obtain⟨C,dx,xs,_,h,_⟩:=h;exact⟨_,h⟩
theorem kh.mono{a:Addr}{o:DO}(e:Ext ρ H ρ' H')(k:H' a=H a)(h:kh mg ρ H a o):kh mg ρ' H' a o:=by
 cases o with
 |lst l=>obtain⟨xs,h,c⟩:=h;exact⟨xs,k.trans h,c.mono e⟩
 |dic ks l=>obtain⟨xs,h,q,c⟩:=h;exact⟨xs,k.trans h,q,c.mono e⟩
 |ins c ns l=>obtain⟨C,dx,xs,m,h,q,c⟩:=h;exact⟨C,dx,xs,m,k.trans h,q,c.mono e⟩
structure J(mg:Str->Option Value)(ρ:Rh)(M:Mo)(H:Hp):Prop where
 len:ρ.st.length=M.length
 nd:ρ.st.Nodup
 obj:∀(n:Nat) a o,ρ.st[n]?=some a->M[n]?=some o->kh mg ρ H a o
 vol:∀a,a∈ρ.vo->a∉ρ.st∧∃xs,H a=some (.lst xs)
theorem J.some{M:Mo}(j:J mg ρ M H){a:Addr}(h:a∈ρ):∃u,H a=some u:=by
 rcases h with h | h
 ·obtain⟨n,hn⟩:=List.mem_iff_getElem?.mp h
  have lt:n<M.length:=by rw[←j.len];exact (List.getElem?_eq_some_iff.mp hn).1
  exact (j.obj n a M[n] hn (List.getElem?_eq_getElem lt)).some
 ·obtain⟨_,xs,e⟩:=j.vol a h
  exact⟨_,e⟩
theorem J.fresh{M:Mo}(j:J mg ρ M H){p:Addr}(h:H p=none):p∉ρ:=fun z=>by
 obtain⟨u,e⟩:=j.some z
 rw[h] at e;cases e
theorem J.inj{M:Mo}(j:J mg ρ M H){n m:Nat}{a:Addr}(h:ρ.st[n]?=Option.some a)(k:ρ.st[m]?=Option.some a):n=m:=by
 obtain⟨h1,e1⟩:=List.getElem?_eq_some_iff.mp h
 obtain⟨h2,e2⟩:=List.getElem?_eq_some_iff.mp k
 have q:∀i k (hi:i<ρ.st.length) (hk:k<ρ.st.length),i<k->ρ.st[i]≠ρ.st[k]:=fun i k hi hk lt=>List.pairwise_iff_getElem.mp j.nd i k hi hk lt
 rcases Nat.lt_trichotomy n m with z | z | z
 ·exact absurd (e1.trans e2.symm) (q n m h1 h2 z)
 ·exact z
 ·exact absurd (e2.trans e1.symm) (q m n h2 h1 z)
theorem Ext.lay{p:Addr}{o:HO}(h:H p=none):Ext ρ H ρ (upd H p o):=⟨⟨[],by simp⟩,rfl,fun a h n=>absurd h n,fun a o e _=>by rw[upd_ne (ne_of_none e h)];exact e⟩
theorem Ext.same(S:Same H H'):Ext ρ H ρ H':=⟨⟨[],by simp⟩,rfl,fun a h n=>absurd h n,fun a o e _=>S _ _ e⟩
theorem J.same{M:Mo}(j:J mg ρ M H)(S:Same H H'):J mg ρ M H':=⟨j.len,j.nd,fun n a o h k=>by
 have c:=j.obj n a o h k
 obtain⟨u,e⟩:=c.some
 exact c.mono (Ext.same S) (by rw[e,S _ _ e]),fun a h=>let ⟨x,xs,e⟩:=j.vol a h;⟨x,xs,S _ _ e⟩⟩
theorem J.lay{M:Mo}(j:J mg ρ M H){p:Addr}(o:HO)(h:H p=none):J mg ρ M (upd H p o):=j.same (same_new h o)
theorem Ext.put{p:Addr}{o:HO}(h:H p=none):Ext ρ H (ρ.put p) (upd H p o):=⟨⟨[p],rfl⟩,rfl,fun a ha n=>by
 rcases List.mem_append.mp ha with z | z
 ·exact absurd z n
 ·rw[List.mem_singleton.mp z];exact h,fun a o e _=>by rw[upd_ne (ne_of_none e h)];exact e⟩
theorem J.put {M:Mo} (j:J mg ρ M H) {p:Addr}{o:HO}{u:DO} (h:H p=none) (c:kh mg (ρ.put p) (upd H p o) p u):J mg (ρ.put p) (M++[u]) (upd H p o):=by
 have np:p∉ρ.st:=fun z=>j.fresh h (.inl z)
 refine⟨?_,?_,fun n a w h1 h2=>?_,fun a ha=>?_⟩
 ·show (ρ.st++[p]).length=_
  rw[List.length_append,List.length_append,j.len];rfl
 ·show (ρ.st++[p]).Nodup
  rw[List.nodup_append]
  exact⟨j.nd,by simp,fun x hx y hy e=>by rw[List.mem_singleton.mp hy] at e;exact np (e ▸ hx)⟩
 ·have h1:(ρ.st++[p])[n]?=Option.some a:=h1
  by_cases hn:n<ρ.st.length
  ·rw[List.getElem?_append_left hn] at h1
   rw[List.getElem?_append_left (by rw[←j.len];exact hn)] at h2
   have c:=j.obj n a w h1 h2
   exact c.mono (Ext.put h) (upd_ne fun (z:a=p)=>np (z ▸ List.mem_of_getElem? h1))
  ·have hl:n<(ρ.st++[p]).length:=(List.getElem?_eq_some_iff.mp h1).1
   rw[List.length_append] at hl
   have e:n=ρ.st.length:=by have:[p].length=1:=rfl;omega
   subst e
   rw[List.getElem?_append_right (Nat.le_refl _)] at h1
   rw[j.len,List.getElem?_append_right (Nat.le_refl _)] at h2
   simp at h1 h2
   subst h1 h2
   exact c
 ·obtain⟨x,xs,e⟩:=j.vol a ha
  have ne:a≠p:=ne_of_none e h
  refine⟨fun z=>?_,xs,by rw[upd_ne ne];exact e⟩
  rcases List.mem_append.mp z with z | z
  ·exact x z
  ·exact ne (List.mem_singleton.mp z)
theorem Ext.upd{p:Addr}{o:HO}(h:p∈ρ.st):Ext ρ H ρ (L2.upd H p o):=⟨⟨[],by simp⟩,rfl,fun a h n=>absurd h n,fun a u e n=>by rw[upd_ne (fun (z:a=p)=>n (z ▸ h))];exact e⟩
theorem J.upd {M:Mo} (j:J mg ρ M H) {n:Nat}{p:Addr}{o:HO}{u:DO} (h:ρ.st[n]?=Option.some p) (c:kh mg ρ (L2.upd H p o) p u):J mg ρ (M.set n u) (L2.upd H p o):=by
 refine⟨by rw[List.length_set];exact j.len,j.nd,fun m a w h1 h2=>?_,fun a ha=>?_⟩
 ·by_cases e:m=n
  ·subst e
   rw[h] at h1;cases h1
   have lt:m<M.length:=by rw[←j.len];exact (List.getElem?_eq_some_iff.mp h).1
   rw[List.getElem?_set_self lt] at h2
   cases h2
   exact c
  ·rw[List.getElem?_set_ne (fun z=>e z.symm)] at h2
   have ne:a≠p:=fun z=>by subst z;exact e (j.inj h1 h)
   exact (j.obj m a w h1 h2).mono (Ext.upd (List.mem_of_getElem? h)) (by rw[upd_ne ne])
 ·obtain⟨x,xs,e⟩:=j.vol a ha
  exact⟨x,xs,by rw[upd_ne (fun (z:a=p)=>x (z ▸ List.mem_of_getElem? h))];exact e⟩
theorem gO{p a:Addr}{o:HO}(hp:p∈ρ.vo)(n:a∉ρ):L2.upd H p o a=H a:=upd_ne fun z=>n (by rw[z];exact .inr hp)
mutual
theorem Cv.hold {p:Addr}{o:HO} (hp:p∈ρ.vo):∀ {v:V}{d:D},Cv mg ρ H v d->Cv mg ρ (L2.upd H p o) v d
 |_,_,.non=>.non
 |_,_,.bl b=>.bl b
 |_,_,.int i=>.int i
 |_,_,.str x=>.str x
 |_,_,.tup n h c=>.tup n ((gO hp n).trans h) (Cvs.hold hp c)
 |_,_,.lst n h c=>.lst n ((gO hp n).trans h) (Cvs.hold hp c)
 |_,_,.dic n h l c=>.dic n ((gO hp n).trans h) l (Cvs.hold hp c)
 |_,_,.obj n m h l c=>.obj n m ((gO hp n).trans h) l (Cvs.hold hp c)
 |_,_,.scr n h=>.scr n (by
   rcases h with h | ⟨o,h⟩
   ·exact .inl ((gO hp n).trans h)
   ·exact .inr ⟨o,(gO hp n).trans h⟩)
 |_,_,.ref h=>.ref h
 |_,_,.cls h=>.cls h
 |_,_,.ty t=>.ty t
 |_,_,.exn a=>.exn a
theorem Cvs.hold{p:Addr}{o:HO}(hp:p∈ρ.vo):∀{vs:List V}{ds:List D},Cvs mg ρ H vs ds->Cvs mg ρ (L2.upd H p o) vs ds
 |_,_,.nil=>.nil
 |_,_,.cons h t=>.cons (Cv.hold hp h) (Cvs.hold hp t)
end
mutual
theorem Cv.less{ρ1:Rh}(hs:ρ1.st=ρ.st)(hv:∀a,a∈ρ1.vo->a∈ρ.vo):∀{v:V}{d:D},Cv mg ρ H v d->Cv mg ρ1 H v d
 |_,_,.non=>.non
 |_,_,.bl b=>.bl b
 |_,_,.int i=>.int i
 |_,_,.str x=>.str x
 |_,_,.tup n h c=>.tup (fun z=>n (z.elim (fun y=>.inl (hs ▸ y)) fun y=>.inr (hv _ y))) h (Cvs.less hs hv c)
 |_,_,.lst n h c=>.lst (fun z=>n (z.elim (fun y=>.inl (hs ▸ y)) fun y=>.inr (hv _ y))) h (Cvs.less hs hv c)
 |_,_,.dic n h l c=>.dic (fun z=>n (z.elim (fun y=>.inl (hs ▸ y)) fun y=>.inr (hv _ y))) h l (Cvs.less hs hv c)
 |_,_,.obj n m h l c=>.obj (fun z=>n (z.elim (fun y=>.inl (hs ▸ y)) fun y=>.inr (hv _ y))) m h l (Cvs.less hs hv c)
 |_,_,.scr n h=>.scr (fun z=>n (z.elim (fun y=>.inl (hs ▸ y)) fun y=>.inr (hv _ y))) h
 |_,_,.ref h=>.ref (by rw[hs];exact h)
 |_,_,.cls h=>.cls h
 |_,_,.ty t=>.ty t
 |_,_,.exn a=>.exn a
theorem Cvs.less{ρ1:Rh}(hs:ρ1.st=ρ.st)(hv:∀a,a∈ρ1.vo->a∈ρ.vo):∀{vs:List V}{ds:List D},Cvs mg ρ H vs ds->Cvs mg ρ1 H vs ds
 |_,_,.nil=>.nil
 |_,_,.cons h t=>.cons (Cv.less hs hv h) (Cvs.less hs hv t)
end
mutual
theorem Cv.more{p:Addr}(hp:H p=none):∀{v:V}{d:D},Cv mg ρ H v d->Cv mg (ρ.hold p) H v d
 |_,_,.non=>.non
 |_,_,.bl b=>.bl b
 |_,_,.int i=>.int i
 |_,_,.str x=>.str x
 |_,_,.tup n h c=>.tup (Rh.nhold n (ne_of_none h hp)) h (Cvs.more hp c)
 |_,_,.lst n h c=>.lst (Rh.nhold n (ne_of_none h hp)) h (Cvs.more hp c)
 |_,_,.dic n h l c=>.dic (Rh.nhold n (ne_of_none h hp)) h l (Cvs.more hp c)
 |_,_,.obj n m h l c=>.obj (Rh.nhold n (ne_of_none h hp)) m h l (Cvs.more hp c)
 |_,_,.scr n h=>.scr (Rh.nhold n (by obtain⟨o,q⟩:=Rd.some h;exact ne_of_none q hp)) h
 |_,_,.ref h=>.ref h
 |_,_,.cls h=>.cls h
 |_,_,.ty t=>.ty t
 |_,_,.exn a=>.exn a
theorem Cvs.more{p:Addr}(hp:H p=none):∀{vs:List V}{ds:List D},Cvs mg ρ H vs ds->Cvs mg (ρ.hold p) H vs ds
 |_,_,.nil=>.nil
 |_,_,.cons h t=>.cons (Cv.more hp h) (Cvs.more hp t)
end
theorem kh.map{ρ1:Rh}{H1:Hp}{a:Addr}{o:DO}(k:H1 a=H a)(f:∀vs ds,Cvs mg ρ H vs ds->Cvs mg ρ1 H1 vs ds)(h:kh mg ρ H a o):kh mg ρ1 H1 a o:=by
 cases o with
 |lst l=>obtain⟨xs,h,c⟩:=h;exact⟨xs,k.trans h,f _ _ c⟩
 |dic ks l=>obtain⟨xs,h,q,c⟩:=h;exact⟨xs,k.trans h,q,f _ _ c⟩
 |ins c ns l=>obtain⟨C,dx,xs,m,h,q,c⟩:=h;exact⟨C,dx,xs,m,k.trans h,q,f _ _ c⟩
theorem J.begin {M:Mo} (j:J mg ρ M H) {p:Addr} (hp:H p=none):J mg (ρ.hold p) M (L2.upd H p (.lst [])):=by
 have np:p∉ρ.st:=fun z=>j.fresh hp (.inl z)
 refine⟨j.len,j.nd,fun n a o h1 h2=>?_,fun a ha=>?_⟩
 ·exact (j.obj n a o h1 h2).map (upd_ne fun (z:a=p)=>np (z ▸ List.mem_of_getElem? h1)) fun vs ds c=>(c.more hp).hold (.head _)
 ·rcases List.mem_cons.mp ha with rfl | ha
  ·exact⟨np,[],upd_same⟩
  ·obtain⟨x,xs,e⟩:=j.vol a ha
   exact⟨x,xs,by rw[upd_ne (ne_of_none e hp)];exact e⟩
theorem J.grow {M:Mo} (j:J mg ρ M H) {p:Addr}{ys:List V} (hp:p∈ρ.vo):J mg ρ M (L2.upd H p (.lst ys)):=by
 refine⟨j.len,j.nd,fun n a o h1 h2=>?_,fun a ha=>?_⟩
 ·exact (j.obj n a o h1 h2).map (upd_ne fun (z:a=p)=>(j.vol p hp).1 (z ▸ List.mem_of_getElem? h1)) fun vs ds c=>c.hold hp
 ·by_cases z:a=p
  ·subst z;exact⟨(j.vol a ha).1,ys,upd_same⟩
  ·obtain⟨x,xs,e⟩:=j.vol a ha
   exact⟨x,xs,by rw[upd_ne z];exact e⟩
theorem J.done{M:Mo}{p:Addr}{ρ1:Rh}(j:J mg ρ1 M H)(hv:ρ1.vo=p::ρ.vo):J mg ⟨ρ1.st,ρ.vo⟩ M H:=by
 refine⟨j.len,j.nd,fun n a o h1 h2=>?_,fun a ha=>?_⟩
 ·exact kh.map (ρ:=ρ1) rfl (fun vs ds c=>Cvs.less (ρ:=ρ1) (ρ1:=⟨ρ1.st,ρ.vo⟩) rfl (fun a ha=>by rw[hv];exact .tail _ ha) c) (j.obj n a o h1 h2)
 ·obtain⟨x,y⟩:=j.vol a (by rw[hv];exact .tail _ ha)
  exact⟨x,y⟩
end
structure Kp(ρ:Rh)(H:Hp)(ρ':Rh)(H':Hp):Prop where
 pre:∃τ,ρ'.st=ρ.st++τ
 keep:∀a o,H a=some o->a∉ρ->a∉ρ'∧H' a=some o
theorem Ext.kp{ρ ρ':Rh}{H H':Hp}(e:Ext ρ H ρ' H'):Kp ρ H ρ' H':=⟨e.pre,fun a o h n=>⟨e.out h n,e.keeps h n⟩⟩
theorem Kp.trans{ρ ρ1 ρ2:Rh}{H H1 H2:Hp}(a:Kp ρ H ρ1 H1)(b:Kp ρ1 H1 ρ2 H2):Kp ρ H ρ2 H2:=by
 refine⟨?_,fun c o h n=>let ⟨x,y⟩:=a.keep c o h n;b.keep c o y x⟩
 obtain⟨τ,h1⟩:=a.pre
 obtain⟨υ,h2⟩:=b.pre
 exact⟨τ++υ,by rw[h2,h1,List.append_assoc]⟩
theorem Kp.at{ρ ρ':Rh}{H H':Hp}(e:Kp ρ H ρ' H'){n:Nat}{a:Addr}(h:ρ.st[n]?=some a):ρ'.st[n]?=some a:=by
 obtain⟨τ,h1⟩:=e.pre
 rw[h1,List.getElem?_append_left (List.getElem?_eq_some_iff.mp h).1];exact h
section
variable{mg:Str->Option Value}{ρ ρ':Rh}{H H':Hp}
mutual
theorem Cv.kp (e:Kp ρ H ρ' H'):∀ {v:V}{d:D},Cv mg ρ H v d->Cv mg ρ' H' v d
 |_,_,.non=>.non
 |_,_,.bl b=>.bl b
 |_,_,.int i=>.int i
 |_,_,.str x=>.str x
 |_,_,.tup n h c=>.tup (e.keep _ _ h n).1 (e.keep _ _ h n).2 (Cvs.kp e c)
 |_,_,.lst n h c=>.lst (e.keep _ _ h n).1 (e.keep _ _ h n).2 (Cvs.kp e c)
 |_,_,.dic n h l c=>.dic (e.keep _ _ h n).1 (e.keep _ _ h n).2 l (Cvs.kp e c)
 |_,_,.obj n m h l c=>.obj (e.keep _ _ h n).1 m (e.keep _ _ h n).2 l (Cvs.kp e c)
 |_,_,.scr n h=>by
   rcases h with h | ⟨o,h⟩
   ·exact .scr (e.keep _ _ h n).1 (.inl (e.keep _ _ h n).2)
   ·exact .scr (e.keep _ _ h n).1 (.inr ⟨o,(e.keep _ _ h n).2⟩)
 |_,_,.ref h=>.ref (e.at h)
 |_,_,.cls h=>.cls h
 |_,_,.ty t=>.ty t
 |_,_,.exn a=>.exn a
theorem Cvs.kp(e:Kp ρ H ρ' H'):∀{vs:List V}{ds:List D},Cvs mg ρ H vs ds->Cvs mg ρ' H' vs ds
 |_,_,.nil=>.nil
 |_,_,.cons h t=>.cons (Cv.kp e h) (Cvs.kp e t)
end
end
def tZ(mg:Str->Option Value)(ρ:Rh)(H:Hp){α β:Type}(rel:Rh->Hp->β->α->Prop)(Q:β->Hp->Prop)(E:XK):R α×Mo->Prop
 |(.ok a,M')=>∀ρ' H' b,Ext ρ H ρ' H'->J mg ρ' M' H'->rel ρ' H' b a->Q b H'
 |(.exc c,M')=>∀ρ' H' C,Ext ρ H ρ' H'->J mg ρ' M' H'->mg c=some (.ref C)->E (.ref C) none H'
def Go(mg:Str->Option Value)(E:XK){α β:Type}(rel:Rh->Hp->β->α->Prop)(Q:β->Hp->Prop)(ρ:Rh)(H:Hp)(m:DM α)(M:Mo):Prop:=∃r,m M=some r∧tZ mg ρ H rel Q E r
section
variable{mg:Str->Option Value}{ρ ρ':Rh}{H H':Hp}{E:XK}{α β γ δ':Type}{rel:Rh->Hp->β->α->Prop}{rel':Rh->Hp->δ'->γ->Prop}{Q:δ'->Hp->Prop}{Q':β->Hp->Prop}
theorem tZ.mono{r:R α×Mo}(e:Ext ρ H ρ' H')(h:tZ mg ρ H rel Q' E r):tZ mg ρ' H' rel Q' E r:=by
 obtain⟨r,M'⟩:=r
 cases r with
 |ok a=>exact fun ρ2 H2 b e2 j c=>h ρ2 H2 b (e.trans e2) j c
 |exc c=>exact fun ρ2 H2 C e2 j m=>h ρ2 H2 C (e.trans e2) j m
theorem Go.bind{m:DM α}{k:α->DM γ}{M:Mo}(g:Go mg E rel' Q ρ H (m>>=k) M)
  (f:∀ρ1 H1 M1 b a,Ext ρ H ρ1 H1->J mg ρ1 M1 H1->rel ρ1 H1 b a->Go mg E rel' Q ρ1 H1 (k a) M1->Q' b H1):Go mg E rel Q' ρ H m M:=by
 obtain⟨r,e,p⟩:=g
 have e:DM.bind m k M=some r:=e
 unfold DM.bind at e
 split at e
 ·cases e
 ·rename_i c M' em
  cases e
  exact⟨_,em,p⟩
 ·rename_i a M' em
  exact⟨_,em,fun ρ1 H1 b x j c=>f ρ1 H1 M' b a x j c ⟨r,e,p.mono x⟩⟩
theorem Go.rd{f:Mo->Option α}{M:Mo}(g:Go mg E rel Q' ρ H (rd f) M):∃a,f M=some a∧∀ρ' H' b,Ext ρ H ρ' H'->J mg ρ' M H'->rel ρ' H' b a->Q' b H':=by
 obtain⟨r,e,p⟩:=g
 obtain⟨a,e1,rfl⟩:=Option.map_eq_some_iff.mp e
 exact⟨a,e1,p⟩
theorem Go.opt{o:Option α}{M:Mo}(g:Go mg E rel Q' ρ H (opt o) M):∃a,o=some a∧∀ρ' H' b,Ext ρ H ρ' H'->J mg ρ' M H'->rel ρ' H' b a->Q' b H':=by
 obtain⟨r,e,p⟩:=g
 obtain⟨a,e1,rfl⟩:=Option.map_eq_some_iff.mp e
 exact⟨a,e1,p⟩
theorem Go.pure{a:α}{M:Mo}(g:Go mg E rel Q' ρ H (pure a) M):∀ρ' H' b,Ext ρ H ρ' H'->J mg ρ' M H'->rel ρ' H' b a->Q' b H':=by
 obtain⟨r,e,p⟩:=g
 have e:some (R.ok a,M)=some r:=e
 cases e
 exact p
end
structure Ev(mg:Str->Option Value)(ρ:Rh)(H:Hp)(σ:St)(δ:aa):Prop where
 len:σ.length=δ.length
 val:∀(i:Nat) d,δ[i]?=some (some d)->∃v,σ[i]?=some (some v)∧Cv mg ρ H v d
theorem Ev.mono{mg:Str->Option Value}{ρ ρ':Rh}{H H':Hp}{σ:St}{δ:aa}(e:Ext ρ H ρ' H')(h:Ev mg ρ H σ δ):Ev mg ρ' H' σ δ:=
 ⟨h.len,fun i d q=>let ⟨v,a,b⟩:=h.val i d q;⟨v,a,b.mono e⟩⟩
theorem Ev.kp{mg:Str->Option Value}{ρ ρ':Rh}{H H':Hp}{σ:St}{δ:aa}(e:Kp ρ H ρ' H')(h:Ev mg ρ H σ δ):Ev mg ρ' H' σ δ:=
 ⟨h.len,fun i d q=>let ⟨v,a,b⟩:=h.val i d q;⟨v,a,b.kp e⟩⟩
theorem Ev.set{mg:Str->Option Value}{ρ:Rh}{H:Hp}{σ:St}{δ:aa}{i:Nat}{v:V}{d:D}(h:Ev mg ρ H σ δ)(c:Cv mg ρ H v d):Ev mg ρ H (σ.set i (some v)) (δ.set i (some d)):=by
 refine⟨by rw[List.length_set,List.length_set,h.len],fun j x q=>?_⟩
 by_cases e:j=i
 ·subst e
  have hj:j<(δ.set j (some d)).length:=(List.getElem?_eq_some_iff.mp q).1
  rw[List.length_set] at hj
  rw[List.getElem?_set_self hj] at q
  cases q
  exact⟨v,List.getElem?_set_self (by rw[h.len];exact hj),c⟩
 ·rw[List.getElem?_set_ne (fun z=>e z.symm)] at q ⊢
  exact h.val j x q
def tD(mg:Str->Option Value)(E:XK){α β:Type}(rel:Rh->Hp->β->α->Prop)(f:aa->DM α):St->Hp->(β->Hp->Prop)->Prop:=fun σ H Q=>
 ∃ρ δ M,Ev mg ρ H σ δ∧J mg ρ M H∧Go mg E rel Q ρ H (f δ) M
def Bv(_:Rh)(_:Hp)(b a:Bool):Prop:=b=a
structure DE(X:Cx)(E:XK)(e:Expr)(f:aa->DM D):Prop where
 h:PE X e (tD X.mg E (Cv X.mg) f)
structure DA(X:Cx)(E:XK)(es:List Expr)(f:aa->DM (List D)):Prop where
 h:QA X es (tD X.mg E (Cvs X.mg) f)
structure DT(X:Cx)(E:XK)(e:Expr)(f:aa->DM Bool):Prop where
 h:PT X e (tD X.mg E Bv f)
theorem PE.mono{X:Cx}{e:Expr}{t t':TE}(h:PE X e t)(f:∀σ H Q,t' σ H Q->t σ H Q):PE X e t':=fun pins s σ H Q I q=>h pins s σ H Q I (f σ H Q q)
theorem PT.mono{X:Cx}{e:Expr}{t t':TT}(h:PT X e t)(f:∀σ H Q,t' σ H Q->t σ H Q):PT X e t':=fun pins s σ H Q I q=>h pins s σ H Q I (f σ H Q q)
theorem PA.mono{X:Cx}{e:List Expr}{t t':TA}(h:PA X e t)(f:∀σ H Q,t' σ H Q->t σ H Q):PA X e t':=fun p pins s σ H Q I q=>h p pins s σ H Q I (f σ H Q q)
mutual
def toPy:D->Option PyData
 |.non=>some .none
 |.bl b=>some (.bool b)
 |.int i=>some (.int i)
 |.str x=>some (.str x)
 |.tup l=>(dU l).map .tuple
 |.lst l=>(dU l).map .list
 |_=>none
def dU:List D->Option (List PyData)
 |[]=>some []
 |d::l=>match toPy d,dU l with
   |some p,some ps=>some (p::ps)
   |_,_=>none
end
mutual
def bN:D->Option PyData
 |.non=>some .none
 |.bl b=>some (.bool b)
 |.int i=>some (.int i)
 |.str x=>some (.str x)
 |.tup l=>(dH l).map .tuple
 |.lst l=>(dH l).map .list
 |.dic [] []=>some (.dict [])
 |.dic [.inl i] [.int j]=>some (.dict [(.int i,.int j)])
 |_=>none
def dH:List D->Option (List PyData)
 |[]=>some []
 |d::l=>match bN d,dH l with
   |some p,some ps=>some (p::ps)
   |_,_=>none
end
section
variable{mg:Str->Option Value}{ρ:Rh}{H:Hp}
mutual
theorem Cv.repF:∀ {v:V}{d:D}{p:PyData},Cv mg ρ H v d->toPy d=some p->RepF H true v p
 |_,_,_,.non,e=>by simp only[toPy,Option.some.injEq] at e;subst e;exact .non
 |_,_,_,.bl b,e=>by simp only[toPy,Option.some.injEq] at e;subst e;exact .bl b
 |_,_,_,.int i,e=>by simp only[toPy,Option.some.injEq] at e;subst e;exact .int i
 |_,_,_,.str x,e=>by simp only[toPy,Option.some.injEq] at e;subst e;exact .str x
 |_,_,_,.tup _ h c,e=>by
   simp only[toPy] at e
   obtain⟨ps,e1,rfl⟩:=Option.map_eq_some_iff.mp e
   exact .tup h (Cvs.repF c e1)
 |_,_,_,.lst _ h c,e=>by
   simp only[toPy] at e
   obtain⟨ps,e1,rfl⟩:=Option.map_eq_some_iff.mp e
   exact .lst h (Cvs.repF c e1)
 |_,_,_,.dic ..,e=>by simp[toPy] at e
 |_,_,_,.obj ..,e=>by simp[toPy] at e
 |_,_,_,.scr ..,e=>by simp[toPy] at e
 |_,_,_,.ref ..,e=>by simp[toPy] at e
 |_,_,_,.cls ..,e=>by simp[toPy] at e
 |_,_,_,.ty ..,e=>by simp[toPy] at e
 |_,_,_,.exn ..,e=>by simp[toPy] at e
theorem Cvs.repF:∀ {vs:List V}{ds:List D}{ps:List PyData},Cvs mg ρ H vs ds->dU ds=some ps->RepsF H true vs ps
 |_,_,_,.nil,e=>by simp only[dU,Option.some.injEq] at e;subst e;exact .nil
 | _,_,_,.cons (d:=d) (ds:=ds) h t,e=>by
   simp only[dU] at e
   split at e
   ·rename_i p ps h1 h2
    cases e
    exact .cons (Cv.repF h h1) (Cvs.repF t h2)
   ·cases e
end
mutual
theorem Cv.repD:∀ {v:V}{d:D}{p:PyData},Cv mg ρ H v d->bN d=some p->RepF H false v p
 |_,_,_,.non,e=>by simp only[bN,Option.some.injEq] at e;subst e;exact .non
 |_,_,_,.bl b,e=>by simp only[bN,Option.some.injEq] at e;subst e;exact .bl b
 |_,_,_,.int i,e=>by simp only[bN,Option.some.injEq] at e;subst e;exact .int i
 |_,_,_,.str x,e=>by simp only[bN,Option.some.injEq] at e;subst e;exact .str x
 |_,_,_,.tup _ h c,e=>by
   simp only[bN] at e
   obtain⟨ps,e1,rfl⟩:=Option.map_eq_some_iff.mp e
   exact .tup h (Cvs.repD c e1)
 |_,_,_,.lst _ h c,e=>by
   simp only[bN] at e
   obtain⟨ps,e1,rfl⟩:=Option.map_eq_some_iff.mp e
   exact .lst h (Cvs.repD c e1)
 | _,_,_,.dic (ks:=ks) (ds:=ds) _ h l c,e=>by
   unfold bN at e
   split at e<;>first | cases e;done | skip
   ·cases ‹D.dic ks ds=_›
   ·cases ‹D.dic ks ds=_›
   ·cases ‹D.dic ks ds=_›
   ·cases ‹D.dic ks ds=_›
   ·cases ‹D.dic ks ds=_›
   ·cases ‹D.dic ks ds=_›
   ·rename_i q
    cases q
    cases c
    cases e
    exact .d0 h
   ·rename_i i j q
    cases q
    cases c with
    |cons c1 c2=>
      cases c2
      cases c1
      cases e
      exact .d1 h
 |_,_,_,.obj ..,e=>by simp[bN] at e
 |_,_,_,.scr ..,e=>by simp[bN] at e
 |_,_,_,.ref ..,e=>by simp[bN] at e
 |_,_,_,.cls ..,e=>by simp[bN] at e
 |_,_,_,.ty ..,e=>by simp[bN] at e
 |_,_,_,.exn ..,e=>by simp[bN] at e
theorem Cvs.repD:∀ {vs:List V}{ds:List D}{ps:List PyData},Cvs mg ρ H vs ds->dH ds=some ps->RepsF H false vs ps
 |_,_,_,.nil,e=>by simp only[dH,Option.some.injEq] at e;subst e;exact .nil
 | _,_,_,.cons (d:=d) (ds:=ds) h t,e=>by
   simp only[dH] at e
   split at e
   ·rename_i p ps h1 h2
    cases e
    exact .cons (Cv.repD h h1) (Cvs.repD t h2)
   ·cases e
end
end
section
variable{X:Cx}{E:XK}{a b c:Expr}{fa fb fc:aa->DM D}{pos:Pos}
def iY(i:Nat)(δ:aa):DM D:=opt ((δ[i]?).join)
theorem aj(i:Nat){x:Str}(hN:X.N[i]?=some x:=by rfl)(hv:Vis X.env.scope x:=by first | exact Or.inl rfl | exact Or.inr (Or.inl rfl) | exact Or.inr (Or.inr rfl))(hd:(x==("__debug__":Str))=false:=by decide)
  (hcd:(x==("__classdict__":Str))=false:=by decide):DE X E (.Name x pos) (iY i):=⟨PE.mono (pe_var (i:=i) hN hv hd hcd) fun σ H Q h=>by
 obtain⟨ρ,δ,M,ev,j,g⟩:=h
 obtain⟨d,e,q⟩:=g.opt
 have e':δ[i]?=some (some d):=by
  cases z:δ[i]? with
  |none=>rw[z] at e;cases e
  |some o=>rw[z] at e;exact congrArg some e
 obtain⟨v,h1,h2⟩:=ev.val i d e'
 exact⟨v,h1,q ρ H v .refl j h2⟩⟩
theorem eU{e:Expr}{v:V}{d:D}(h:PE X e (tC v))(hc:∀ρ H,Cv X.mg ρ H v d):DE X E e (fun _=>pure d):=⟨PE.mono h fun σ H Q h=>by
 obtain⟨ρ,δ,M,ev,j,g⟩:=h
 exact g.pure ρ H v .refl j (hc _ _)⟩
theorem aq{i j}:DE X E (.Constant (.int i) j pos) (fun _=>pure (.int i)):=eU pe_int fun _ _=>.int i
theorem cF{i j}:DE X E (.Constant (.bool i) j pos) (fun _=>pure (.bl i)):=eU pe_bl fun _ _=>.bl i
theorem jt{j}:DE X E (.Constant .none j pos) (fun _=>pure .non):=eU pe_non fun _ _=>.non
theorem qF{x j}:DE X E (.Constant (.str x) j pos) (fun _=>pure (.str x)):=eU pe_str fun _ _=>.str x
theorem BX{x:Str}{i:Int}{t:Tok}(h:X.mg x=some (.int i t))(hg:Gl X x:=by rfl)(hd:(x==("__debug__":Str))=false:=by decide):DE X E (.Name x pos) (fun _=>pure (.int i)):=eU (Ci h hg hd) fun _ _=>.int i
theorem cX{x:Str}{T:String}(hm:X.mg x=none)(hg:Gl X x:=by rfl)(hv:bootBuiltins x=some (.type T):=by decide +kernel)(hn:x≠"__name__":=by decide)(hdb:(x==("__debug__":Str))=false:=by decide):DE X E (.Name x pos) (fun _=>pure (.ty T)):=
 eU (Ck hm hg hv hn hdb) fun _ _=>.ty T
def rD(mg:Str->Option Value)(E:XK)(g:D->D->DM D):R2:=fun x y H Q=>∃ρ M dx dy,J mg ρ M H∧Cv mg ρ H x dx∧Cv mg ρ H y dy∧Go mg E (Cv mg) Q ρ H (g dx dy) M
def bC(X:Cx)(E:XK)(f:Value->Value->Sem Value)(g:D->D->DM D):Prop:=OpR X f (rD X.mg E g)
theorem sH{g:D->D->DM D}{r:R2}(hr:∀x y H Q,rD X.mg E g x y H Q->r x y H Q){σ:L2.St}{H:Hp}{Q:VK}(h:tD X.mg E (Cv X.mg) (fun δ=>fa δ>>=fun x=>fb δ>>=fun y=>g x y) σ H Q) :
  tOp r (tD X.mg E (Cv X.mg) fa) (tD X.mg E (Cv X.mg) fb) σ H Q:=by
 obtain⟨ρ,δ,M,ev,j,g1⟩:=h
 exact⟨ρ,δ,M,ev,j,g1.bind fun ρ1 H1 M1 x dx e1 j1 c1 g2=>⟨ρ1,δ,M1,ev.mono e1,j1,g2.bind fun ρ2 H2 M2 y dy e2 j2 c2 g3=>hr _ _ _ _ ⟨ρ2,M2,dx,dy,j2,c1.mono e2,c2,g3⟩⟩⟩
theorem aD{op:Operator}{g:D->D->DM D}(ho:bC X E (binaryOp op) g)(ha:DE X E a fa)(hb:DE X E b fb):DE X E (.BinOp a op b pos) (fun δ=>fa δ>>=fun x=>fb δ>>=fun y=>g x y):=
 ⟨PE.mono (pe_op ho ha.h hb.h) fun σ H Q h=>sH (fun _ _ _ _ z=>z) h⟩
theorem fO{op:CmpOp}{g:D->D->DM D}(ho:bC X E (compareOp op) g)(ha:DE X E a fa)(hb:DE X E b fb)(hm:behindInMarks op b=false:=by first | exact nomark _ | rfl):DE X E (.Compare a [op] [b] pos) (fun δ=>fa δ>>=fun x=>fb δ>>=fun y=>g x y):=
 ⟨PE.mono (pe_cmpR ho ha.h hb.h hm) fun σ H Q h=>sH (fun _ _ _ _ z=>z) h⟩
def cU:D->DM Bool
 |.bl b=>pure b
 |_=>stuck
theorem Go.cU{mg:Str->Option Value}{ρ:Rh}{H:Hp}{d:D}{M:Mo}{Q:Bool->Hp->Prop}(g:Go mg E Bv Q ρ H (cU d) M):∃k,d=.bl k∧∀ρ' H',Ext ρ H ρ' H'->J mg ρ' M H'->Q k H':=by
 cases d with
 |bl k=>exact⟨k,rfl,fun ρ' H' e j=>(show Go mg E Bv Q ρ H (Pure.pure k) M from g).pure ρ' H' k e j rfl⟩
 |_=>obtain⟨r,e,_⟩:=g;cases e
theorem dt_of{e:Expr}{f:aa->DM D}{t:TE}(h:PT X e (tTest t))(ht:∀σ H Q,tD X.mg E (Cv X.mg) f σ H Q->t σ H Q):DT X E e (fun δ=>f δ>>=cU):=⟨PT.mono h fun σ H Q h=>by
 obtain⟨ρ,δ,M,ev,j,g1⟩:=h
 refine ht _ _ _ ⟨ρ,δ,M,ev,j,g1.bind fun ρ1 H1 M1 x dx e1 j1 c1 g2=>?_⟩
 obtain⟨k,rfl,q⟩:=Go.cU g2
 cases c1
 exact⟨k,rfl,q ρ1 H1 .refl j1⟩⟩
theorem aM{op:CmpOp}{g:D->D->DM D}(ho:bC X E (compareOp op) g)(ha:DE X E a fa)(hb:DE X E b fb)(hm:behindInMarks op b=false:=by first | exact nomark _ | rfl):DT X E (.Compare a [op] [b] pos) (fun δ=>(fa δ>>=fun x=>fb δ>>=fun y=>g x y)>>=cU):=
 dt_of (pt_cmpR ho ha.h hb.h hm) fun σ H Q h=>sH (fun _ _ _ _ z=>z) h
theorem Di {g g':D->D->DM D}{σ:L2.St}{H:Hp}{Q:VK} (h:tD X.mg E (Cv X.mg) (fun δ=>fa δ >>= fun x=>fb δ >>= fun y=>g x y >>= fun z=>cU z >>= fun k=>if k then fc δ >>= fun w=>g' y w else pure (.bl false)) σ H Q) :
  tChain (rD X.mg E g) (rD X.mg E g') (tD X.mg E (Cv X.mg) fa) (tD X.mg E (Cv X.mg) fb) (tD X.mg E (Cv X.mg) fc) σ H Q:=by
 obtain⟨ρ,δ,M,ev,j,g1⟩:=h
 refine⟨ρ,δ,M,ev,j,g1.bind fun ρ1 H1 M1 x dx e1 j1 c1 g2=>⟨ρ1,δ,M1,ev.mono e1,j1,g2.bind fun ρ2 H2 M2 y dy e2 j2 c2 g3=>⟨ρ2,M2,dx,dy,j2,c1.mono e2,c2,g3.bind fun ρ3 H3 M3 z dz e3 j3 c3 g4=>?_⟩⟩⟩
 have g5:=g4.bind (rel:=Bv) (Q':=fun k H4=>dz=.bl k∧∃ρ4 M4,Ext ρ3 H3 ρ4 H4∧J X.mg ρ4 M4 H4∧Go X.mg E (Cv X.mg) Q ρ4 H4 (if k then fc δ>>=fun w=>g' dy w else pure (.bl false)) M4)
 have key:∃k,dz=.bl k∧Go X.mg E (Cv X.mg) Q ρ3 H3 (if k then fc δ>>=fun w=>g' dy w else pure (.bl false)) M3:=by
  cases dz with
  |bl k=>exact⟨k,rfl,g4⟩
  |_=>obtain⟨r,e,_⟩:=g4;cases e
 obtain⟨k,rfl,g6⟩:=key
 cases c3
 refine⟨k,rfl,?_⟩
 cases k with
 |false=>exact iteF (g6.pure ρ3 H3 _ .refl j3 (.bl false))
 |true=>
   have g6:Go X.mg E (Cv X.mg) Q ρ3 H3 (fc δ>>=fun w=>g' dy w) M3:=g6
   exact iteT ⟨ρ3,δ,M3,((ev.mono e1).mono e2).mono e3,j3,g6.bind fun ρ4 H4 M4 w dw e4 j4 c4 g7=>⟨ρ4,M4,dy,dw,j4,(c2.mono e3).mono e4,c4,g7⟩⟩
theorem wR{op op':CmpOp}{g g':D->D->DM D}(ho:bC X E (compareOp op) g)(ho':bC X E (compareOp op') g')(ha:DE X E a fa)(hb:DE X E b fb)(hc:DE X E c fc)(hm:lastMarks [op,op'] [b,c]=false:=by with_unfolding_all rfl) :
  DE X E (.Compare a [op,op'] [b,c] pos) (fun δ=>fa δ>>=fun x=>fb δ>>=fun y=>g x y>>=fun z=>cU z>>=fun k=>if k then fc δ>>=fun w=>g' y w else pure (.bl false)):=
 ⟨PE.mono (pe_chain ho ho' ha.h hb.h hc.h hm) fun σ H Q h=>Di h⟩
theorem nu{op op':CmpOp}{g g':D->D->DM D}(ho:bC X E (compareOp op) g)(ho':bC X E (compareOp op') g')(ha:DE X E a fa)(hb:DE X E b fb)(hc:DE X E c fc)(hm:lastMarks [op,op'] [b,c]=false:=by with_unfolding_all rfl) :
  DT X E (.Compare a [op,op'] [b,c] pos) (fun δ=>(fa δ>>=fun x=>fb δ>>=fun y=>g x y>>=fun z=>cU z>>=fun k=>if k then fc δ>>=fun w=>g' y w else pure (.bl false))>>=cU):=
 dt_of (pt_chain ho ho' ha.h hb.h hc.h hm) fun σ H Q h=>Di h
def nW:D->Mo->Option Bool
 |.non,_=>some false
 |.bl b,_=>some b
 |.int i,_=>some (i != 0)
 |.str y,_=>if y.length≤sizeLine then some ((y.length:Int) != 0) else none
 |.tup l,_=>some (!l.isEmpty)
 |.lst l,_=>some (!l.isEmpty)
 |.scr l,_=>some (!l.isEmpty)
 |.dic ks _,_=>some (!ks.isEmpty)
 |.ref n,M=>match M[n]? with
   |some (.lst l)=>some (!l.isEmpty)
   |some (.dic ks _)=>some (!ks.isEmpty)
   |_=>none
 |_,_=>none
theorem p8 {α β:Type}{ks:List α}{xs:List β} (h:ks.length=xs.length):(ks.zip xs).isEmpty=ks.isEmpty:=by
 cases ks with
 |nil=>simp
 |cons k ks=>cases xs with
   |nil=>simp at h
   |cons x xs=>rfl
theorem Cvs.empty{mg:Str->Option Value}{ρ:Rh}{H:Hp}{vs:List V}{ds:List D}(c:Cvs mg ρ H vs ds):vs.isEmpty=ds.isEmpty:=by cases c<;>rfl
theorem Bt {K:PySem.W.Frag}{mg:Str->Option Value}{ρ:Rh}{H:Hp}{M:Mo}{x:V}{d:D}{k:Bool} (j:J mg ρ M H) (h:Cv mg ρ H x d) (e:nW d M=some k):TruV K x H k:=by
 cases h with
 |non=>cases e;rfl
 |bl b=>cases e;rfl
 |int i=>cases e;rfl
 |str y=>
   unfold nW at e
   dsimp only at e
   split at e
   ·cases e;exact⟨‹_›,rfl⟩
   ·cases e
 |tup n h c=>cases e;exact .inr (.inl ⟨_,SqT.of h,by rw[c.empty]⟩)
 |lst n h c=>cases e;exact .inl ⟨_,SqL.of h,by rw[c.empty]⟩
 |scr n h=>cases e;exact .inl ⟨_,.inl h,by simp⟩
 |dic n h l c=>cases e;exact .inr (.inr ⟨_,h,by rw[p8 l]⟩)
 | ref q=>
   rename_i n a
   unfold nW at e
   dsimp only at e
   split at e
   ·rename_i l hl
    cases e
    obtain⟨xs,h,c⟩:=j.obj n a _ q hl
    exact .inl ⟨_,SqL.of h,by rw[c.empty]⟩
   ·rename_i ks l hl
    cases e
    obtain⟨xs,h,z,c⟩:=j.obj n a _ q hl
    exact .inr (.inr ⟨_,h,by rw[p8 z]⟩)
   ·cases e
 |obj=>cases e
 |cls=>cases e
 |ty=>cases e
 |exn=>cases e
theorem aX(ha:DE X E a fa)(he:∀whole,isTrue a X.env whole=(do let v ←whole;standAt a.pos;holding [v] (truthy v))):DT X E a (fun δ=>fa δ>>=fun x=>rd (nW x)):=⟨PT.mono (pt_truth ha.h he) fun σ H Q h=>by
 obtain⟨ρ,δ,M,ev,j,g1⟩:=h
 refine⟨ρ,δ,M,ev,j,g1.bind fun ρ1 H1 M1 x dx e1 j1 c1 g2=>?_⟩
 obtain⟨k,e,q⟩:=g2.rd
 exact⟨k,Bt j1 c1 e,q ρ1 H1 k .refl j1 rfl⟩⟩
variable{ta tb:aa->DM Bool}
theorem bB(ha:DT X E a ta):DT X E (.UnaryOp .Not a pos) (fun δ=>ta δ>>=fun k=>pure (!k)):=⟨PT.mono (pt_not ha.h) fun σ H Q h=>by
 obtain⟨ρ,δ,M,ev,j,g1⟩:=h
 refine⟨ρ,δ,M,ev,j,g1.bind fun ρ1 H1 M1 x dx e1 j1 c1 g2=>?_⟩
 have c1:x=dx:=c1
 subst c1
 exact g2.pure ρ1 H1 _ .refl j1 rfl⟩
structure DW(X:Cx)(E:XK)(e:Expr)(f:aa->DM Bool):Prop where
 h:PW X e (tD X.mg E Bv f)
theorem PW.mono{e:Expr}{t t':TT}(h:PW X e t)(f:∀σ H Q,t' σ H Q->t σ H Q):PW X e t':=fun w pins s σ H Q I q=>h w pins s σ H Q I (f σ H Q q)
theorem DW.dt{e:Expr}(h:DW X E e ta):DT X E e ta:=⟨PW.pt h.h⟩
theorem sy(ha:DT X E a ta):DW X E (.BoolOp .And [a] pos) ta:=⟨pw_and1 ha.h⟩
theorem cL(ha:DT X E a ta):DW X E (.BoolOp .Or [a] pos) ta:=⟨pw_or1 ha.h⟩
variable{rest:List Expr}
theorem vy(ha:DT X E a ta)(hb:DW X E (.BoolOp .And (b::rest) pos) tb):DW X E (.BoolOp .And (a::b::rest) pos) (fun δ=>ta δ>>=fun k=>if k then tb δ else pure false):=⟨PW.mono (pw_and ha.h hb.h) fun σ H Q h=>by
 obtain⟨ρ,δ,M,ev,j,g1⟩:=h
 refine⟨ρ,δ,M,ev,j,g1.bind fun ρ1 H1 M1 x dx e1 j1 c1 g2=>?_⟩
 have c1:x=dx:=c1
 subst c1
 cases x with
 |true=>exact iteT ⟨ρ1,δ,M1,ev.mono e1,j1,g2⟩
 |false=>exact iteF (Go.pure (a:=false) g2 ρ1 H1 _ .refl j1 rfl)⟩
theorem bZ(ha:DT X E a ta)(hb:DW X E (.BoolOp .Or (b::rest) pos) tb):DW X E (.BoolOp .Or (a::b::rest) pos) (fun δ=>ta δ>>=fun k=>if k then pure true else tb δ):=⟨PW.mono (pw_or ha.h hb.h) fun σ H Q h=>by
 obtain⟨ρ,δ,M,ev,j,g1⟩:=h
 refine⟨ρ,δ,M,ev,j,g1.bind fun ρ1 H1 M1 x dx e1 j1 c1 g2=>?_⟩
 have c1:x=dx:=c1
 subst c1
 cases x with
 |false=>exact iteF ⟨ρ1,δ,M1,ev.mono e1,j1,g2⟩
 |true=>exact iteT (Go.pure (a:=true) g2 ρ1 H1 _ .refl j1 rfl)⟩
theorem lJ{op:BoolOp}(ha:DE X E a fa):DE X E (.BoolOp op [a] pos) fa:=⟨pe_one ha.h⟩
theorem Go.isB{mg:Str->Option Value}{ρ:Rh}{H:Hp}{α β:Type}{rel:Rh->Hp->β->α->Prop}{Q:β->Hp->Prop}{d:D}{M:Mo}{f:Bool->DM α}(g:Go mg E rel Q ρ H (L3.cU d>>=f) M):∃k,d=.bl k∧Go mg E rel Q ρ H (f k) M:=by
 cases d with
 |bl k=>exact⟨k,rfl,g⟩
 |_=>obtain⟨r,e,_⟩:=g;cases e
theorem lH(ha:DE X E a fa)(hb:DE X E (.BoolOp .And (b::rest) pos) fb):DE X E (.BoolOp .And (a::b::rest) pos) (fun δ=>fa δ>>=fun x=>cU x>>=fun k=>if k then fb δ else pure (.bl false)):=⟨PE.mono (pe_and ha.h hb.h) fun σ H Q h=>by
 obtain⟨ρ,δ,M,ev,j,g1⟩:=h
 refine⟨ρ,δ,M,ev,j,g1.bind fun ρ1 H1 M1 x dx e1 j1 c1 g2=>?_⟩
 obtain⟨k,rfl,g3⟩:=Go.isB g2
 cases c1
 refine⟨k,rfl,?_⟩
 cases k with
 |true=>exact iteT ⟨ρ1,δ,M1,ev.mono e1,j1,g3⟩
 |false=>exact iteF (Go.pure (a:=D.bl false) g3 ρ1 H1 _ .refl j1 (.bl false))⟩
theorem vd(ha:DE X E a fa):DE X E (.UnaryOp .Not a pos) (fun δ=>fa δ>>=fun x=>cU x>>=fun k=>pure (.bl (!k))):=⟨PE.mono (pe_not ha.h) fun σ H Q h=>by
 obtain⟨ρ,δ,M,ev,j,g1⟩:=h
 refine⟨ρ,δ,M,ev,j,g1.bind fun ρ1 H1 M1 x dx e1 j1 c1 g2=>?_⟩
 obtain⟨k,rfl,g3⟩:=Go.isB g2
 cases c1
 exact⟨k,rfl,g3.pure ρ1 H1 _ .refl j1 (.bl _)⟩⟩
theorem ao:DA X E [] (fun _=>pure []):=⟨⟨PA.mono Bh.h fun σ H Q h=>by
 obtain⟨ρ,δ,M,ev,j,g⟩:=h
 exact g.pure ρ H [] .refl j .nil⟩⟩
theorem ak{es:List Expr}{fs:aa->DM (List D)}(ha:DE X E a fa)(hr:DA X E es fs)(hs:notStar a=true:=by rfl):DA X E (a::es) (fun δ=>fa δ>>=fun x=>fs δ>>=fun xs=>pure (x::xs)):=⟨⟨PA.mono (Ea ha.h hr.h hs).h fun σ H Q h=>by
 obtain⟨ρ,δ,M,ev,j,g1⟩:=h
 exact⟨ρ,δ,M,ev,j,g1.bind fun ρ1 H1 M1 x dx e1 j1 c1 g2=>⟨ρ1,δ,M1,ev.mono e1,j1,g2.bind fun ρ2 H2 M2 xs dxs e2 j2 c2 g3=>g3.pure ρ2 H2 _ .refl j2 (.cons (c1.mono e2) c2)⟩⟩⟩⟩
def du{α:Type}(l:List α):Bool:=decide (l.length≤sizeLine)
def cV(l:List D):DM D:=opt (if du l then some (.tup l) else none)
def cN(l:List D):DM D:=opt (if du l then some (.lst l) else none)
def dX(l:List D):DM D:=fun M=>if du l then some (.ok (.ref M.length),M++[.lst l]) else none
theorem oU{l:List D}{d e:D}(h:(if du l then some d else none)=some e):l.length≤sizeLine∧d=e:=by
 split at h
 ·cases h;exact⟨of_decide_eq_true ‹_›,rfl⟩
 ·cases h
variable{es:List Expr}{fs:aa->DM (List D)}
theorem bf{x1}(h:DA X E es fs):DE X E (.Tuple es x1 pos) (fun δ=>fs δ>>=cV):=⟨PE.mono (zg h.h) fun σ H Q h=>by
 obtain⟨ρ,δ,M,ev,j,g1⟩:=h
 refine⟨ρ,δ,M,ev,j,g1.bind fun ρ1 H1 M1 xs dxs e1 j1 c1 g2=>?_⟩
 obtain⟨d,e,q⟩:=Go.opt g2
 obtain⟨hz,rfl⟩:=oU e
 exact⟨by rw[c1.len];exact hz,fun p hp=>q ρ1 _ _ (.lay hp) (j1.lay _ hp) (.tup (j1.fresh hp) upd_same (c1.mono (.lay hp)))⟩⟩
theorem bD(h:DA X E es fs):DE X E (.List es pos) (fun δ=>fs δ>>=cN):=⟨PE.mono (tH h.h) fun σ H Q h=>by
 obtain⟨ρ,δ,M,ev,j,g1⟩:=h
 refine⟨ρ,δ,M,ev,j,g1.bind fun ρ1 H1 M1 xs dxs e1 j1 c1 g2=>?_⟩
 obtain⟨d,e,q⟩:=Go.opt g2
 obtain⟨hz,rfl⟩:=oU e
 exact⟨by rw[c1.len];exact hz,fun p hp=>q ρ1 _ _ (.lay hp) (j1.lay _ hp) (.lst (j1.fresh hp) upd_same (c1.mono (.lay hp)))⟩⟩
theorem Go.dX{mg:Str->Option Value}{ρ:Rh}{H:Hp}{M:Mo}{Q:VK}{l:List D}{xs:List V}{p:Addr}(g:Go mg E (Cv mg) Q ρ H (dX l) M)(j:J mg ρ M H)(c:Cvs mg ρ H xs l)(hp:H p=none):l.length≤sizeLine∧Q (.ref p) (upd H p (.lst xs)):=by
 obtain⟨r,e,q⟩:=g
 unfold L3.dX at e
 split at e
 ·cases e
  refine⟨of_decide_eq_true ‹_›,?_⟩
  have x:Ext ρ H (ρ.put p) (upd H p (.lst xs)):=.put hp
  refine q _ _ _ x (j.put hp ⟨xs,upd_same,c.mono x⟩) (.ref ?_)
  show (ρ.st++[p])[_]?=_
  rw[←j.len];simp
 ·cases e
theorem Go.mkR_len{mg:Str->Option Value}{ρ:Rh}{H:Hp}{M:Mo}{Q:VK}{l:List D}(g:Go mg E (Cv mg) Q ρ H (L3.dX l) M):l.length≤sizeLine:=by
 obtain⟨r,e,q⟩:=g
 unfold L3.dX at e
 split at e
 ·exact of_decide_eq_true ‹_›
 ·cases e
theorem jr(h:DA X E es fs):DE X E (.List es pos) (fun δ=>fs δ>>=dX):=⟨PE.mono (tH h.h) fun σ H Q h=>by
 obtain⟨ρ,δ,M,ev,j,g1⟩:=h
 refine⟨ρ,δ,M,ev,j,g1.bind fun ρ1 H1 M1 xs dxs e1 j1 c1 g2=>?_⟩
 exact⟨by rw[c1.len];exact g2.mkR_len,fun p hp=>(g2.dX j1 c1 hp).2⟩⟩
end
section
variable{X:Cx}{E:XK}{mg:Str->Option Value}{ρ:Rh}{H:Hp}{M:Mo}
theorem Go.rdb{α β γ:Type}{rel:Rh->Hp->β->α->Prop}{Q:β->Hp->Prop}{f:Mo->Option γ}{k:γ->DM α}(g:Go mg E rel Q ρ H (L3.rd f>>=k) M):∃a,f M=some a∧Go mg E rel Q ρ H (k a) M:=by
 obtain⟨r,e,p⟩:=g
 have e:DM.bind _ _ M=some r:=e
 unfold DM.bind L3.rd at e
 cases h:f M with
 |none=>rw[h] at e;cases e
 |some a=>rw[h] at e;exact⟨a,rfl,r,e,p⟩
theorem bC.of{f:Value->Value->Sem Value}{r:R2}{g:D->D->Mo->Option D}(hr:OpR X f r)
  (h:∀x y H Q ρ M dx dy d,J X.mg ρ M H->Cv X.mg ρ H x dx->Cv X.mg ρ H y dy->g dx dy M=some d->(∀ρ' H' v,Ext ρ H ρ' H'->J X.mg ρ' M H'->Cv X.mg ρ' H' v d->Q v H')->r x y H Q):bC X E f (fun x y=>rd (g x y)):=by
 intro pins s σ H x y v u Q I rx ry q
 obtain⟨ρ,M,dx,dy,j,cx,cy,go⟩:=q
 obtain⟨d,e,p⟩:=go.rd
 exact hr pins s σ H x y v u Q I rx ry (h x y H Q ρ M dx dy d j cx cy e p)
def aV:D->Mo->Option (List D)
 |.lst l,_=>some l
 |.ref n,M=>match M[n]? with
   |some (.lst l)=>some l
   |_=>none
 |_,_=>none
theorem cZ (j:J mg ρ M H) {x:V}{d:D}{l:List D} (c:Cv mg ρ H x d) (e:aV d M=some l):∃ a xs,x=.ref a∧H a=some (.lst xs)∧Cvs mg ρ H xs l:=by
 cases c with
 |lst n h c=>cases e;exact⟨_,_,rfl,h,c⟩
 | ref q=>
   unfold aV at e
   dsimp only at e
   split at e
   ·rename_i l' hl
    cases e
    obtain⟨xs,h,c⟩:=j.obj _ _ _ q hl
    exact⟨_,_,rfl,h,c⟩
   ·cases e
 |_=>cases e
theorem J.notup(j:J mg ρ M H){p:Addr}{xs:List V}(h:H p=Option.some (HO.tup xs)):p∉ρ:=fun z=>by
 rcases z with z | z
 rotate_left
 ·obtain⟨_,ys,e⟩:=j.vol p z
  rw[h] at e;cases e
 obtain⟨n,hn⟩:=List.mem_iff_getElem?.mp z
 have lt:n<M.length:=by rw[←j.len];exact (List.getElem?_eq_some_iff.mp hn).1
 have c:=j.obj n p M[n] hn (List.getElem?_eq_getElem lt)
 cases hm:M[n] with
 |lst l=>rw[hm] at c;obtain⟨xs,e,_⟩:=c;rw[h] at e;cases e
 |dic ks l=>rw[hm] at c;obtain⟨xs,e,_⟩:=c;rw[h] at e;cases e
 |ins c' ns l=>rw[hm] at c;obtain⟨_,_,_,_,e,_⟩:=c;rw[h] at e;cases e
def Bu(l:List D):Option D:=if du l then some (.tup l) else none
def xg(l:List D):Option D:=if du l then some (.lst l) else none
def bY:D->D->Mo->Option D
 |.int i,.int j,_=>some (.int (i+j))
 |.str a,.str b,_=>if a.length+b.length≤sizeLine then some (.str (a++b)) else none
 |.tup l,.tup m,_=>Bu (l++m)
 |x,y,M=>match aV x M,aV y M with
   |some l,some m=>xg (l++m)
   |_,_=>none
theorem wH {x y d:D}{M:Mo} (h:bY x y M=some d):(∃ i j,x=.int i∧y=.int j∧d=.int (i + j))∨(∃ a b,x=.str a∧y=.str b∧a.length + b.length≤sizeLine∧d=.str (a++b))∨(∃ l m,x=.tup l∧y=.tup m∧l.length + m.length≤sizeLine∧d=.tup (l++m)) ∨
  ∃l m,aV x M=some l∧aV y M=some m∧l.length+m.length≤sizeLine∧d=.lst (l++m):=by
 unfold bY at h
 split at h
 ·cases h;exact .inl ⟨_,_,rfl,rfl,rfl⟩
 ·split at h
  ·cases h;exact .inr (.inl ⟨_,_,rfl,rfl,‹_›,rfl⟩)
  ·cases h
 ·obtain⟨hz,rfl⟩:=oU h
  rw[List.length_append] at hz
  exact .inr (.inr (.inl ⟨_,_,rfl,rfl,hz,rfl⟩))
 ·split at h
  ·rename_i l m h1 h2
   obtain⟨hz,rfl⟩:=oU h
   rw[List.length_append] at hz
   exact .inr (.inr (.inr ⟨l,m,h1,h2,hz,rfl⟩))
  ·cases h
theorem aW:bC X E (binaryOp .Add) (fun x y=>rd (bY x y)):=by
 refine bC.of (op_add.or (op_add_str.or (yV.or op_cat))) fun x y H Q ρ M dx dy d j cx cy e q=>?_
 rcases wH e with ⟨i,k,rfl,rfl,rfl⟩ | ⟨i,k,rfl,rfl,hz,rfl⟩ | ⟨l,m,rfl,rfl,hz,rfl⟩ | ⟨l,m,h1,h2,hz,rfl⟩
 ·cases cx;cases cy
  exact .inl ⟨_,_,rfl,rfl,q ρ H _ .refl j (.int _)⟩
 ·cases cx;cases cy
  exact .inr (.inl ⟨_,_,rfl,rfl,hz,q ρ H _ .refl j (.str _)⟩)
 ·cases cx with | tup n1 a1 c1=>cases cy with | tup n2 a2 c2=>
  refine .inr (.inr (.inl ⟨_,_,_,_,rfl,rfl,a1,a2,by rw[c1.len,c2.len];exact hz,fun p H' S hp=>?_⟩))
  exact q ρ H' _ (.same S) (j.same S) (.tup ((j.same S).notup hp) hp ((c1.append c2).mono (.same S)))
 ·obtain⟨a1,x1,rfl,a2,c1⟩:=cZ j cx h1
  obtain⟨b1,y1,rfl,b2,c2⟩:=cZ j cy h2
  refine .inr (.inr (.inr ⟨_,_,_,_,rfl,rfl,a2,b2,by rw[c1.len,c2.len];exact hz,fun p hp=>?_⟩))
  exact q ρ _ _ (.lay hp) (j.lay _ hp) (.lst (j.fresh hp) upd_same ((c1.append c2).mono (.lay hp)))
def cI(C:Int->Int->Bool)(g:Int->Int->D):D->D->Mo->Option D
 |.int i,.int j,_=>if C i j then some (g i j) else none
 |_,_,_=>none
theorem o9{C:Int->Int->Bool}{g:Int->Int->D}{x y d:D}{M:Mo}(h:cI C g x y M=some d):∃i j,x=.int i∧y=.int j∧C i j=true∧d=g i j:=by
 unfold cI at h
 split at h
 ·split at h
  ·cases h;exact⟨_,_,rfl,rfl,‹_›,rfl⟩
  ·cases h
 ·cases h
theorem mO{f:Value->Value->Sem Value}{C:Int->Int->Bool}{g:Int->Int->Int}{P:Int->Int->Prop}(hr:OpR X f (rI P fun i j=>.int (g i j)))(hc:∀i j,C i j=true->P i j):bC X E f (fun x y=>rd (cI C (fun i j=>.int (g i j)) x y)):=
 bC.of hr fun x y H Q ρ M dx dy d j cx cy e q=>by
  obtain⟨i,k,rfl,rfl,hh,rfl⟩:=o9 e
  cases cx;cases cy
  exact⟨_,_,rfl,rfl,hc _ _ hh,q ρ H _ .refl j (.int _)⟩
theorem qU{f:Value->Value->Sem Value}{g:Int->Int->Int}(hr:OpR X f (rI0 fun i j=>.int (g i j))):bC X E f (fun x y=>rd (cI (fun _ _=>true) (fun i j=>.int (g i j)) x y)):=
 bC.of hr fun x y H Q ρ M dx dy d j cx cy e q=>by
  obtain⟨i,k,rfl,rfl,hh,rfl⟩:=o9 e
  cases cx;cases cy
  exact⟨_,_,rfl,rfl,q ρ H _ .refl j (.int _)⟩
theorem mL{f:Value->Value->Sem Value}{g:Int->Int->Bool}(hr:OpR X f (rI0 fun i j=>.bl (g i j))):bC X E f (fun x y=>rd (cI (fun _ _=>true) (fun i j=>.bl (g i j)) x y)):=
 bC.of hr fun x y H Q ρ M dx dy d j cx cy e q=>by
  obtain⟨i,k,rfl,rfl,hh,rfl⟩:=o9 e
  cases cx;cases cy
  exact⟨_,_,rfl,rfl,q ρ H _ .refl j (.bl _)⟩
abbrev jk:D->D->Mo->Option D:=cI (fun _ _=>true) fun i j=>.int (i-j)
theorem eY:bC X E (binaryOp .Sub) (fun x y=>rd (jk x y)):=qU op_sub
def fK(i j:Int):Bool:=!(decide (Builtin.Int.intBits i > shortFactorBits)&&decide (Builtin.Int.intBits j > shortFactorBits)&&Builtin.Int.intTooBig (Builtin.Int.intBits i+Builtin.Int.intBits j))
theorem fK.ok{i j:Int}(h:fK i j=true):IntMulOk i j:=fun z=>by
 unfold fK at h
 rw[z] at h;cases h
abbrev ph:D->D->Mo->Option D:=cI fK fun i j=>.int (i*j)
theorem pC:bC X E (binaryOp .Mult) (fun x y=>rd (ph x y)):=mO yZ fun i j h=>fK.ok h
def mD(i j:Int):Bool:=decide (0<j)&&!Builtin.divisionGoesByPylong i j
theorem xu:OpR X (binaryOp .FloorDiv) (rI (fun i j=>mD i j=true) fun i j=>.int (i / j)):=opI fun i j _ _ _ _ _ hc q=>by
 unfold mD at hc
 have h0:0<j:=by
  have:=(Bool.and_eq_true _ _).mp hc
  exact of_decide_eq_true this.1
 have h1:Builtin.divisionGoesByPylong i j=false:=by
  have:=(Bool.and_eq_true _ _).mp hc
  simpa using this.2
 have e:i.fdiv j=i / j:=Int.fdiv_eq_ediv_of_nonneg i (Int.le_of_lt h0)
 exact floordiv_int (Int.ne_of_gt h0) (by rw[e];exact q) (.inl h1)
abbrev oJ:D->D->Mo->Option D:=cI mD fun i j=>.int (i / j)
theorem jP:bC X E (binaryOp .FloorDiv) (fun x y=>rd (oJ x y)):=mO xu fun i j h=>h
abbrev lN:D->D->Mo->Option D:=cI (fun _ j=>decide (0<j)) fun i j=>.int (i%j)
theorem dY:bC X E (binaryOp .Mod) (fun x y=>rd (lN x y)):=mO op_mod fun i j h=>of_decide_eq_true h
def xY(i j:Int):Bool:=decide (0≤j∧j≤1000000∧i.natAbs<2^64)
abbrev uA:D->D->Mo->Option D:=cI xY fun i j=>.int (i^j.toNat)
theorem tu:bC X E (binaryOp .Pow) (fun x y=>rd (uA x y)):=mO op_pow fun i j h=>of_decide_eq_true (p:=0≤j∧j≤1000000∧i.natAbs<2^64) h
abbrev lM:D->D->Mo->Option D:=cI (fun _ _=>true) fun i j=>.bl (decide (i<j))
abbrev pW:D->D->Mo->Option D:=cI (fun _ _=>true) fun i j=>.bl (decide (i≤j))
abbrev gB:D->D->Mo->Option D:=cI (fun _ _=>true) fun i j=>.bl (decide (j<i))
abbrev vC:D->D->Mo->Option D:=cI (fun _ _=>true) fun i j=>.bl (decide (j≤i))
theorem jC:bC X E (compareOp .Lt) (fun x y=>rd (lM x y)):=mL op_lt
theorem lO:bC X E (compareOp .LtE) (fun x y=>rd (pW x y)):=mL op_le
theorem jB:bC X E (compareOp .Gt) (fun x y=>rd (gB x y)):=mL op_gt
theorem qW:bC X E (compareOp .GtE) (fun x y=>rd (vC x y)):=mL op_ge
def eqP(x y:D):Option Bool:=match toPy x,toPy y with
 |some p,some q=>if p.canLay0&&q.canLay0&&decide (p.depth≤60) then some (PyData.eqv p q) else none
 |_,_=>none
def eqB:D->D->Option Bool
 |.str a,.str b=>some (decide (a=b))
 |x,y=>eqP x y
def bW(x y:D)(_:Mo):Option D:=(eqB x y).map .bl
def cR(x y:D)(_:Mo):Option D:=(eqB x y).map fun b=>.bl (!b)
theorem zW {x y:D}{b:Bool} (h:eqP x y=some b):∃ p q,toPy x=some p∧toPy y=some q∧p.canLay0=true∧q.canLay0=true∧p.depth≤60∧b=PyData.eqv p q:=by
 unfold eqP at h
 split at h
 ·rename_i p q h1 h2
  split at h
  ·rename_i hc
   cases h
   simp only[Bool.and_eq_true,decide_eq_true_eq] at hc
   exact⟨p,q,h1,h2,hc.1.1,hc.1.2,hc.2,rfl⟩
  ·cases h
 ·cases h
theorem zV{x y:D}{b:Bool}(h:eqB x y=some b):(∃a c,x=.str a∧y=.str c∧b=decide (a=c))∨eqP x y=some b:=by
 unfold eqB at h
 split at h
 ·cases h;exact .inl ⟨_,_,rfl,rfl,rfl⟩
 ·exact .inr h
theorem zG{a c:Str}:decide (V.str a=V.str c)=decide (a=c):=by
 rw[Bool.eq_iff_iff];simp
theorem sX{f:Value->Value->Sem Value}{n:Bool}(h1:OpR X f (fun x y H Q=>scal x y=true∧Q (.bl (n ^^ decide (x=y))) H))(h2:OpR X f (xK X.K n)):bC X E f (fun x y=>rd fun _=>(eqB x y).map fun b=>.bl (n ^^ b)):=by
 intro pins s σ H x y v u Q I rx ry q
 obtain⟨ρ,M,dx,dy,j,cx,cy,g⟩:=q
 obtain⟨d,e,q⟩:=Go.rd g
 obtain⟨b,hb,rfl⟩:=Option.map_eq_some_iff.mp e
 rcases zV hb with ⟨a,c,rfl,rfl,rfl⟩ | hb
 ·cases cx;cases cy
  refine h1 pins s σ H _ _ v u Q I rx ry ⟨rfl,?_⟩
  rw[zG]
  exact q ρ H _ .refl j (.bl _)
 ·obtain⟨p,p',k1,k2,h3,h4,h5,rfl⟩:=zW hb
  refine h2 pins s σ H x y v u Q I rx ry ⟨p,p',(cx.repF k1).toRep,(cy.repF k2).toRep,h3,h4,h5,?_⟩
  have:=q ρ H _ .refl j (.bl _)
  cases n
  ·simpa using this
  ·simpa using this
theorem bO(hu:X.A.units+64<cLine):bC X E (compareOp .Eq) (fun x y=>rd (bW x y)):=by
 have h:=sX (X:=X) (E:=E) (n:=false) (f:=compareOp .Eq) (fun pins s σ H x y v u Q I rx ry q=>op_eq (X:=X) pins s σ H x y v u Q I rx ry ⟨q.1,by simpa using q.2⟩) (Bb hu)
 have e:(fun x y=>(rd (bW x y):DM D))=fun x y=>rd fun _=>(eqB x y).map fun b=>.bl (false ^^ b):=by
  funext x y
  show rd _=rd _
  congr 1
  funext M
  simp only[bW,Bool.false_xor,Bool.true_xor]
 rw[e];exact h
theorem bQ(hu:X.A.units+64<cLine):bC X E (compareOp .NotEq) (fun x y=>rd (cR x y)):=by
 have h:=sX (X:=X) (E:=E) (n:=true) (f:=compareOp .NotEq) (fun pins s σ H x y v u Q I rx ry q=>op_ne (X:=X) pins s σ H x y v u Q I rx ry ⟨q.1,by simpa using q.2⟩) (Bd hu)
 have e:(fun x y=>(rd (cR x y):DM D))=fun x y=>rd fun _=>(eqB x y).map fun b=>.bl (true ^^ b):=by
  funext x y
  show rd _=rd _
  congr 1
  funext M
  simp only[cR,Bool.false_xor,Bool.true_xor]
 rw[e];exact h
def pU:D->Bool
 |.non=>true
 |_=>false
theorem Ae{x:V}{d:D}(c:Cv mg ρ H x d):decide (x=.non)=pU d:=by cases c<;>rfl
def isD(x y:D)(_:Mo):Option D:=match y with
 |.non=>some (.bl (pU x))
 |_=>none
theorem Bc:bC X E (compareOp .Is) (fun x y=>rd (isD x y)):=bC.of op_isN fun x y H Q ρ M dx dy d j cx cy e q=>by
 unfold isD at e
 split at e
 ·cases e;cases cy
  exact⟨rfl,by rw[Ae cx];exact q ρ H _ .refl j (.bl _)⟩
 ·cases e
def xm:D->D->Mo->Option D
 |.tup [c],.int k,_=>if decide (1≤k∧k≤1000) then some (.tup (List.replicate k.toNat c)) else none
 |_,_,_=>none
theorem Cvs.rep{v:V}{d:D}(c:Cv mg ρ H v d):∀n,Cvs mg ρ H (List.replicate n v) (List.replicate n d)
 |0=>.nil
 |n+1=>.cons c (Cvs.rep c n)
theorem zc:bC X E (binaryOp .Mult) (fun x y=>rd (xm x y)):=bC.of zf fun x y H Q ρ M dx dy d j cx cy e q=>by
 unfold xm at e
 split at e
 ·split at e
  ·rename_i hk
   have hk:=of_decide_eq_true hk
   cases e
   cases cy
   cases cx with | tup n a c=>cases c with | cons c1 c2=>
   cases c2
   refine⟨_,_,_,rfl,rfl,a,hk.1,hk.2,fun p H' S hp=>?_⟩
   exact q ρ H' _ (.same S) (j.same S) (.tup ((j.same S).notup hp) hp ((Cvs.rep c1 _).mono (.same S)))
  ·cases e
 ·cases e
def uG(l:List D)(k:Int):Option (List D):=if decide (-(2^63)≤k∧k<2^63∧l.length*k.toNat≤sizeLine) then some (List.replicate k.toNat l).flatten else none
theorem Cvs.reps{vs:List V}{ds:List D}(c:Cvs mg ρ H vs ds):∀n,Cvs mg ρ H (List.replicate n vs).flatten (List.replicate n ds).flatten
 |0=>.nil
 |n+1=>by rw[List.replicate_succ,List.replicate_succ,List.flatten_cons,List.flatten_cons];exact c.append (Cvs.reps c n)
def nJ(x y:D)(M:Mo):Option (List D):=match aV x M,y with
 |some l,.int k=>uG l k
 |_,_=>none
theorem sV {x y:D}{l:List D} (h:nJ x y M=some l):∃ m k,aV x M=some m∧y=.int k∧(-(2 ^ 63)≤k∧k<2 ^ 63∧m.length * k.toNat≤sizeLine)∧l=(List.replicate k.toNat m).flatten:=by
 unfold nJ at h
 split at h
 ·rename_i m k h1
  unfold uG at h
  split at h
  ·rename_i hk
   cases h
   exact⟨m,k,h1,rfl,of_decide_eq_true hk,rfl⟩
  ·cases h
 ·cases h
theorem za:bC X E (binaryOp .Mult) (fun x y=>rd (fun M=>(nJ x y M).map .lst)):=bC.of op_rep fun x y H Q ρ M dx dy d j cx cy e q=>by
 obtain⟨l,e1,rfl⟩:=Option.map_eq_some_iff.mp e
 obtain⟨m,k,h1,rfl,⟨h2,h3,h4⟩,rfl⟩:=sV e1
 obtain⟨a,xs,rfl,ha,c⟩:=cZ j cx h1
 cases cy
 refine⟨_,_,_,rfl,rfl,ha,h2,h3,by rw[c.len];exact h4,fun p hp=>?_⟩
 exact q ρ _ _ (.lay hp) (j.lay _ hp) (.lst (j.fresh hp) upd_same ((Cvs.reps c _).mono (.lay hp)))
def Ar(x y:D):DM D:=rd (nJ x y)>>=dX
theorem zb:bC X E (binaryOp .Mult) Ar:=by
 intro pins s σ H x y v u Q I rx ry q
 obtain⟨ρ,M,dx,dy,j,cx,cy,go⟩:=q
 obtain⟨l,e1,g⟩:=Go.rdb go
 obtain⟨m,k,h1,rfl,⟨h2,h3,h4⟩,rfl⟩:=sV e1
 obtain⟨a,xs,rfl,ha,c⟩:=cZ j cx h1
 cases cy
 exact op_rep (X:=X) pins s σ H _ _ v u Q I rx ry ⟨_,_,_,rfl,rfl,ha,h2,h3,by rw[c.len];exact h4,fun p hp=>(g.dX j (Cvs.reps c _) hp).2⟩
def xn:D->Mo->Option D
 |.int i,_=>some (.int (-i))
 |_,_=>none
theorem oG{a:Expr}{fa:aa->DM D}{pos:Pos}(ha:DE X E a fa):DE X E (.UnaryOp .USub a pos) (fun δ=>fa δ>>=fun x=>rd (xn x)):=⟨PE.mono (pe_un un_neg ha.h) fun σ H Q h=>by
 obtain⟨ρ,δ,M,ev,j,g1⟩:=h
 refine⟨ρ,δ,M,ev,j,g1.bind fun ρ1 H1 M1 x dx e1 j1 c1 g2=>?_⟩
 obtain⟨d,e,q⟩:=g2.rd
 unfold xn at e
 split at e
 ·cases e;cases c1
  exact⟨_,rfl,q ρ1 H1 _ .refl j1 (.int _)⟩
 ·cases e⟩
theorem Cvs.at{vs:List V}{ds:List D}{i:Int}{d:D}(c:Cvs mg ρ H vs ds)(h:atI ds i=some d):∃v,atI vs i=some v∧Cv mg ρ H v d:=by
 unfold atI at h ⊢
 rw[c.len]
 obtain⟨n,hn,e⟩:=Option.bind_eq_some_iff.mp h
 obtain⟨v,e2,cv⟩:=c.get e
 exact⟨v,by rw[hn];exact e2,cv⟩
def aY:D->D->Mo->Option D
 |.tup l,.int i,_=>atI l i
 |.scr l,.int i,_=>(atI l i).map .int
 |x,.int i,M=>(aV x M).bind fun l=>atI l i
 |_,_,_=>none
def Df(X:Cx)(E:XK)(g:D->D->DM D):Prop:=IxR X (rD X.mg E g)
theorem aO:Df X E (fun x y=>rd (aY x y)):=by
 intro value slice pins s σ H x y v u Q I rx ry q hs
 obtain⟨ρ,M,dx,dy,j,cx,cy,go⟩:=q
 obtain⟨d,e,p⟩:=go.rd
 unfold aY at e
 split at e
 ·cases cy
  cases cx with | tup n a c=>
  obtain⟨w,e2,cw⟩:=c.at e
  exact ix_tup (X:=X) value slice pins s σ H _ _ v u Q I rx ry ⟨_,_,_,_,rfl,rfl,SqT.of a,e2,p ρ H _ .refl j cw⟩ hs
 ·rename_i l i
  cases cy
  cases cx with | scr n a=>
  obtain⟨z,e1,rfl⟩:=Option.map_eq_some_iff.mp e
  have e2:atI (l.map V.int) i=some (V.int z):=by
   unfold atI at e1 ⊢
   rw[List.length_map]
   obtain⟨n,hn,e⟩:=Option.bind_eq_some_iff.mp e1
   rw[hn]
   show (List.map V.int _)[n]?=_
   rw[List.getElem?_map,e];rfl
  exact ix_list (X:=X) value slice pins s σ H _ _ v u Q I rx ry ⟨_,_,_,_,rfl,rfl,.inl a,e2,p ρ H _ .refl j (.int z)⟩ hs
 ·cases cy
  obtain⟨l,h1,e1⟩:=Option.bind_eq_some_iff.mp e
  obtain⟨a,xs,rfl,ha,c⟩:=cZ j cx h1
  obtain⟨w,e2,cw⟩:=c.at e1
  exact ix_list (X:=X) value slice pins s σ H _ _ v u Q I rx ry ⟨_,_,_,_,rfl,rfl,SqL.of ha,e2,p ρ H _ .refl j cw⟩ hs
 ·cases e
theorem aJ{a b:Expr}{fa fb:aa->DM D}{pos:Pos}{g:D->D->DM D}(hi:Df X E g)(ha:DE X E a fa)(hb:DE X E b fb)(hs:PlainIx b:=by exact fun _ _=>rfl):DE X E (.Subscript a b pos) (fun δ=>fa δ>>=fun x=>fb δ>>=fun y=>g x y):=
 ⟨PE.mono (pe_ix hi ha.h hb.h hs) fun σ H Q h=>sH (fun _ _ _ _ z=>z) h⟩
def uV:D->DM (Option Int)
 |.int i=>pure (some i)
 |_=>stuck
def cutD(xs:List D)(lo hi:Option Int):List D:=(xs.drop (HT.sIx xs.length 0 lo)).take (HT.sIx xs.length xs.length hi-HT.sIx xs.length 0 lo)
theorem Cvs.cut{vs:List V}{ds:List D}(c:Cvs mg ρ H vs ds)(lo hi:Option Int):Cvs mg ρ H (cutV vs lo hi) (cutD ds lo hi):=by
 unfold cutV cutD
 rw[c.len]
 exact (c.drop _).take _
structure DP(X:Cx)(E:XK)(e:Option Expr)(f:aa->DM (Option Int)):Prop where
 h:PO X e (tD X.mg E (fun _ _ (b a:Option Int)=>b=a) f)
theorem PO.mono{e:Option Expr}{t t':TO}(h:PO X e t)(f:∀σ H Q,t' σ H Q->t σ H Q):PO X e t':=fun pins s σ H Q I q=>h pins s σ H Q I (f σ H Q q)
theorem eV:DP X E none (fun _=>pure none):=⟨PO.mono po_none fun σ H Q h=>by
 obtain⟨ρ,δ,M,ev,j,g⟩:=h
 exact g.pure ρ H none .refl j rfl⟩
theorem cP{a:Expr}{fa:aa->DM D}(ha:DE X E a fa):DP X E (some a) (fun δ=>fa δ>>=uV):=⟨PO.mono (po_some ha.h) fun σ H Q h=>by
 obtain⟨ρ,δ,M,ev,j,g1⟩:=h
 refine⟨ρ,δ,M,ev,j,g1.bind fun ρ1 H1 M1 x dx e1 j1 c1 g2=>?_⟩
 cases dx with
 |int i=>cases c1;exact⟨i,rfl,Go.pure (a:=some i) g2 ρ1 H1 _ .refl j1 rfl⟩
 |_=>obtain⟨r,e,_⟩:=g2;cases e⟩
def my(lo hi:Option Int):D->Mo->Option D
 |.tup l,_=>some (.tup (cutD l lo hi))
 |x,M=>(aV x M).map fun l=>.lst (cutD l lo hi)
theorem Eh:SlR X (fun x lo hi H Q=>∃ρ M dx d,J X.mg ρ M H∧Cv X.mg ρ H x dx∧my lo hi dx M=some d∧∀ρ' H' v,Ext ρ H ρ' H'->J X.mg ρ' M H'->Cv X.mg ρ' H' v d->Q v H'):=by
 intro pins s σ H x v vl vu lo hi sl Q I rx hs pl pu h
 obtain⟨ρ,M,dx,d,j,c,e,q⟩:=h
 unfold my at e
 split at e
 ·cases e
  cases c with | tup n a c=>
  refine zF (X:=X) pins s σ H _ v vl vu lo hi sl Q I rx hs pl pu ⟨_,_,rfl,a,fun p H' S hp=>?_⟩
  exact q ρ H' _ (.same S) (j.same S) (.tup ((j.same S).notup hp) hp ((c.cut lo hi).mono (.same S)))
 ·obtain⟨l,h1,rfl⟩:=Option.map_eq_some_iff.mp e
  obtain⟨a,xs,rfl,ha,c⟩:=cZ j c h1
  refine sl_list (X:=X) pins s σ H _ v vl vu lo hi sl Q I rx hs pl pu ⟨_,_,rfl,SqL.of ha,fun p hp=>?_⟩
  exact q ρ _ _ (.lay hp) (j.lay _ hp) (.lst (j.fresh hp) upd_same ((c.cut lo hi).mono (.lay hp)))
theorem dD{a:Expr}{fa:aa->DM D}{lo hi:Option Expr}{fl fh:aa->DM (Option Int)}{p2 pos:Pos}(ha:DE X E a fa)(hl:DP X E lo fl)(hh:DP X E hi fh) :
  DE X E (.Subscript a (.Slice lo hi none p2) pos) (fun δ=>fa δ>>=fun x=>fl δ>>=fun l=>fh δ>>=fun h=>rd (my l h x)):=⟨PE.mono (pe_slice Eh ha.h hl.h hh.h) fun σ H Q h=>by
 obtain⟨ρ,δ,M,ev,j,g1⟩:=h
 refine⟨ρ,δ,M,ev,j,g1.bind fun ρ1 H1 M1 x dx e1 j1 c1 g2=>⟨ρ1,δ,M1,ev.mono e1,j1,g2.bind fun ρ2 H2 M2 l dl e2 j2 c2 g3=>⟨ρ2,δ,M2,(ev.mono e1).mono e2,j2,g3.bind fun ρ3 H3 M3 h dh e3 j3 c3 g4=>?_⟩⟩⟩
 have c2:l=dl:=c2
 have c3:h=dh:=c3
 subst c2 c3
 obtain⟨d,e,q⟩:=g4.rd
 exact⟨ρ3,M3,dx,d,j3,(c1.mono e2).mono e3,e,q⟩⟩
end
inductive Fl where
 |nx (δ:aa) | rt (d:D) | bk (δ:aa) | ct (δ:aa)
def n8(mg:Str->Option Value)(ρ:Rh)(H:Hp)(D:Ends)(E:XK):R Fl×Mo->Prop
 |(.ok (.nx δ'),M')=>∀ρ' H' σ',Ext ρ H ρ' H'->J mg ρ' M' H'->Ev mg ρ' H' σ' δ'->D.nx σ' H'
 |(.ok (.bk δ'),M')=>∀ρ' H' σ',Ext ρ H ρ' H'->J mg ρ' M' H'->Ev mg ρ' H' σ' δ'->D.bk σ' H'
 |(.ok (.ct δ'),M')=>∀ρ' H' σ',Ext ρ H ρ' H'->J mg ρ' M' H'->Ev mg ρ' H' σ' δ'->D.ct σ' H'
 |(.ok (.rt d),M')=>∀ρ' H' v,Ext ρ H ρ' H'->J mg ρ' M' H'->Cv mg ρ' H' v d->D.rt v H'
 |(.exc c,M')=>∀ρ' H' C,Ext ρ H ρ' H'->J mg ρ' M' H'->mg c=some (.ref C)->E (.ref C) none H'
def bF(mg:Str->Option Value)(E:XK)(D:Ends)(ρ:Rh)(H:Hp)(m:DM Fl)(M:Mo):Prop:=∃r,m M=some r∧n8 mg ρ H D E r
section
variable{mg:Str->Option Value}{ρ ρ':Rh}{H H':Hp}{E:XK}{α β:Type}{rel:Rh->Hp->β->α->Prop}{D D':Ends}{Q':β->Hp->Prop}{M:Mo}
theorem n8.mono{r:R Fl×Mo}(e:Ext ρ H ρ' H')(h:n8 mg ρ H D E r):n8 mg ρ' H' D E r:=by
 obtain⟨r,M'⟩:=r
 cases r with
 |ok a=>cases a<;>exact fun ρ2 H2 b e2 j c=>h ρ2 H2 b (e.trans e2) j c
 |exc c=>exact fun ρ2 H2 C e2 j m=>h ρ2 H2 C (e.trans e2) j m
theorem bF.bind{m:DM α}{k:α->DM Fl}(g:bF mg E D ρ H (m>>=k) M)
  (f:∀ρ1 H1 M1 b a,Ext ρ H ρ1 H1->J mg ρ1 M1 H1->rel ρ1 H1 b a->bF mg E D ρ1 H1 (k a) M1->Q' b H1):Go mg E rel Q' ρ H m M:=by
 obtain⟨r,e,p⟩:=g
 have e:DM.bind m k M=some r:=e
 unfold DM.bind at e
 split at e
 ·cases e
 ·rename_i c M' em
  cases e
  exact⟨_,em,p⟩
 ·rename_i a M' em
  exact⟨_,em,fun ρ1 H1 b x j c=>f ρ1 H1 M' b a x j c ⟨r,e,p.mono x⟩⟩
theorem bF.pure{a:Fl}(g:bF mg E D ρ H (pure a) M):n8 mg ρ H D E (.ok a,M):=by
 obtain⟨r,e,p⟩:=g
 have e:some (R.ok a,M)=some r:=e
 cases e
 exact p
def uJ(f g:aa->DM Fl):aa->DM Fl:=fun δ=>f δ>>=fun r=>match r with
 |.nx δ'=>g δ'
 |r=>Pure.pure r
theorem bF.seq{f:DM Fl}{k:Fl->DM Fl}(g:bF mg E D ρ H (f>>=k) M)
  (hn:∀δ' ρ1 H1 M1 σ1,Ext ρ H ρ1 H1->J mg ρ1 M1 H1->Ev mg ρ1 H1 σ1 δ'->bF mg E D ρ1 H1 (k (.nx δ')) M1->D'.nx σ1 H1)
  (hb:∀δ' ρ1 H1 M1 σ1,Ext ρ H ρ1 H1->J mg ρ1 M1 H1->Ev mg ρ1 H1 σ1 δ'->bF mg E D ρ1 H1 (k (.bk δ')) M1->D'.bk σ1 H1)
  (hc:∀δ' ρ1 H1 M1 σ1,Ext ρ H ρ1 H1->J mg ρ1 M1 H1->Ev mg ρ1 H1 σ1 δ'->bF mg E D ρ1 H1 (k (.ct δ')) M1->D'.ct σ1 H1)
  (hr:∀d ρ1 H1 M1 v,Ext ρ H ρ1 H1->J mg ρ1 M1 H1->Cv mg ρ1 H1 v d->bF mg E D ρ1 H1 (k (.rt d)) M1->D'.rt v H1):bF mg E D' ρ H f M:=by
 obtain⟨r,e,p⟩:=g
 have e:DM.bind f k M=some r:=e
 unfold DM.bind at e
 split at e
 ·cases e
 ·rename_i c M' em
  cases e
  exact⟨_,em,p⟩
 ·rename_i a M' em
  refine⟨_,em,?_⟩
  cases a with
  |nx δ'=>exact fun ρ1 H1 b x j c=>hn δ' ρ1 H1 M' b x j c ⟨r,e,p.mono x⟩
  |bk δ'=>exact fun ρ1 H1 b x j c=>hb δ' ρ1 H1 M' b x j c ⟨r,e,p.mono x⟩
  |ct δ'=>exact fun ρ1 H1 b x j c=>hc δ' ρ1 H1 M' b x j c ⟨r,e,p.mono x⟩
  |rt d=>exact fun ρ1 H1 b x j c=>hr d ρ1 H1 M' b x j c ⟨r,e,p.mono x⟩
end
def tS(mg:Str->Option Value)(E:XK)(f:aa->DM Fl):TS:=fun D σ H=>∃ρ δ M,Ev mg ρ H σ δ∧J mg ρ M H∧bF mg E D ρ H (f δ) M
structure DS(X:Cx)(E:XK)(st:Stmt)(f:aa->DM Fl):Prop where
 h:PS X st (tS X.mg E f)
structure DSs(X:Cx)(E:XK)(st:List Stmt)(f:aa->DM Fl):Prop where
 h:PSs X st (tS X.mg E f)
theorem PS.mono{X:Cx}{e:Stmt}{t t':TS}(h:PS X e t)(f:∀D σ H,t' D σ H->t D σ H):PS X e t':=fun pins s σ H D I q=>h pins s σ H D I (f D σ H q)
theorem PSs.mono{X:Cx}{e:List Stmt}{t t':TS}(h:PSs X e t)(f:∀D σ H,t' D σ H->t D σ H):PSs X e t':=fun pins s σ H D I q=>h pins s σ H D I (f D σ H q)
section
variable{X:Cx}{E:XK}{st:Stmt}{rest:List Stmt}{f g:aa->DM Fl}{e:Expr}{fe:aa->DM D}{pos:Pos}
theorem aN:DSs X E [] (fun δ=>pure (.nx δ)):=⟨PSs.mono pss_nil fun D σ H h=>by
 obtain⟨ρ,δ,M,ev,j,g⟩:=h
 exact g.pure ρ H σ .refl j ev⟩
theorem aA(h:DS X E st f):DSs X E [st] f:=⟨pss_one h.h⟩
theorem az(h1:DS X E st f)(h2:DSs X E rest g):DSs X E (st::rest) (uJ f g):=⟨PSs.mono (pss_cons h1.h h2.h) fun D σ H h=>by
 obtain⟨ρ,δ,M,ev,j,g1⟩:=h
 refine⟨ρ,δ,M,ev,j,g1.seq (fun δ' ρ1 H1 M1 σ1 e1 j1 ev1 g2=>⟨ρ1,δ',M1,ev1,j1,g2⟩) (fun δ' ρ1 H1 M1 σ1 e1 j1 ev1 g2=>?_) (fun δ' ρ1 H1 M1 σ1 e1 j1 ev1 g2=>?_) (fun d ρ1 H1 M1 v e1 j1 c1 g2=>?_)⟩
 ·exact bF.pure g2 ρ1 H1 σ1 .refl j1 ev1
 ·exact bF.pure g2 ρ1 H1 σ1 .refl j1 ev1
 ·exact bF.pure g2 ρ1 H1 v .refl j1 c1⟩
theorem aF(he:DE X E e fe):DS X E (.Return (some e) pos) (fun δ=>fe δ>>=fun d=>pure (.rt d)):=⟨PS.mono (L2.ps_ret he.h) fun D σ H h=>by
 obtain⟨ρ,δ,M,ev,j,g1⟩:=h
 exact⟨ρ,δ,M,ev,j,g1.bind fun ρ1 H1 M1 v d e1 j1 c1 g2=>g2.pure ρ1 H1 v .refl j1 c1⟩⟩
theorem mF(he:DE X E e fe)(hs:swapsWith e none pos.line X.env=pure false:=by rfl):DS X E (.Expr e pos) (fun δ=>fe δ>>=fun _=>pure (.nx δ)):=⟨PS.mono (ps_expr he.h hs) fun D σ H h=>by
 obtain⟨ρ,δ,M,ev,j,g1⟩:=h
 exact⟨ρ,δ,M,ev,j,g1.bind fun ρ1 H1 M1 v d e1 j1 c1 g2=>g2.pure ρ1 H1 σ .refl j1 (ev.mono e1)⟩⟩
theorem bh{i:Nat}{x:Str}{pos':Pos}(hN:X.N.Nodup)(hi:X.N[i]?=some x)(hx:Loc X.env.scope x)(he:DE X E e fe)(hs:swapsWith e (some (.Name x pos')) pos.line X.env=pure false:=by rfl)(hf:X.fn x=true∨X.env.scope.names.lookup x=some .local:=by first | exact .inl rfl | exact .inr rfl | assumption) :
  DS X E (.Assign [.Name x pos'] e pos) (fun δ=>fe δ>>=fun d=>pure (.nx (δ.set i (some d)))):=⟨PS.mono (ps_set hN hi hx he.h hs hf) fun D σ H h=>by
 obtain⟨ρ,δ,M,ev,j,g1⟩:=h
 exact⟨ρ,δ,M,ev,j,g1.bind fun ρ1 H1 M1 v d e1 j1 c1 g2=>g2.pure ρ1 H1 _ .refl j1 ((ev.mono e1).set c1)⟩⟩
theorem bj{c:Expr}{a b:List Stmt}{tc:aa->DM Bool}(hc:DT X E c tc)(ha:DSs X E a f)(hb:DSs X E b g):DS X E (.If c a b pos) (fun δ=>tc δ>>=fun k=>if k then f δ else g δ):=⟨PS.mono (L2.ps_if hc.h ha.h hb.h) fun D σ H h=>by
 obtain⟨ρ,δ,M,ev,j,g1⟩:=h
 refine⟨ρ,δ,M,ev,j,g1.bind fun ρ1 H1 M1 x dx e1 j1 c1 g2=>?_⟩
 have c1:x=dx:=c1
 subst c1
 cases x with
 |true=>exact iteT ⟨ρ1,δ,M1,ev.mono e1,j1,g2⟩
 |false=>exact iteF ⟨ρ1,δ,M1,ev.mono e1,j1,g2⟩⟩
def tG(mg:Str->Option Value)(E:XK)(fg:D->aa->DM aa):TG:=fun v σ H Q=>∃ρ δ M d,Ev mg ρ H σ δ∧J mg ρ M H∧Cv mg ρ H v d∧Go mg E (Ev mg) Q ρ H (fg d δ) M
def Fx(mg:Str->Option Value)(E:XK)(fg:List D->aa->DM aa):TGs:=fun vs σ H Q=>∃ρ δ M ds,Ev mg ρ H σ δ∧J mg ρ M H∧Cvs mg ρ H vs ds∧Go mg E (Ev mg) Q ρ H (fg ds δ) M
structure DG(X:Cx)(E:XK)(tg:Expr)(fg:D->aa->DM aa):Prop where
 h:PG X tg (tG X.mg E fg)
structure DGs(X:Cx)(E:XK)(tg:List Expr)(fg:List D->aa->DM aa):Prop where
 h:PGs X tg (Fx X.mg E fg)
theorem PG.mono{tg:Expr}{t t':TG}(h:PG X tg t)(f:∀v σ H Q,t' v σ H Q->t v σ H Q):PG X tg t':=fun pins s σ H v u Q I r q=>h pins s σ H v u Q I r (f v σ H Q q)
theorem PGs.mono{tg:List Expr}{t t':TGs}(h:PGs X tg t)(f:∀v σ H Q,t' v σ H Q->t v σ H Q):PGs X tg t':=fun pins s σ H v u Q I r q=>h pins s σ H v u Q I r (f v σ H Q q)
def gN(i:Nat):D->aa->DM aa:=fun d δ=>pure (δ.set i (some d))
theorem aH{i:Nat}{x:Str}(hN:X.N.Nodup)(hi:X.N[i]?=some x)(hx:Loc X.env.scope x)(hf:X.fn x=true∨X.env.scope.names.lookup x=some .local:=by first | exact .inl rfl | exact .inr rfl | assumption):DG X E (.Name x pos) (gN i):=
 ⟨PG.mono (pg_name hN hi hx hf) fun v σ H Q h=>by
  obtain⟨ρ,δ,M,d,ev,j,c,g1⟩:=h
  exact Go.pure g1 ρ H _ .refl j (ev.set c)⟩
def qg:List D->aa->DM aa
 |[],δ=>pure δ
 |_,_=>stuck
def jy(f:D->aa->DM aa)(fs:List D->aa->DM aa):List D->aa->DM aa
 |d::l,δ=>f d δ>>=fun δ'=>fs l δ'
 |_,_=>stuck
theorem ju:DGs X E [] qg:=⟨PGs.mono pgs_nil fun vs σ H Q h=>by
 obtain⟨ρ,δ,M,ds,ev,j,c,g1⟩:=h
 cases c with
 |nil=>exact⟨rfl,Go.pure (a:=δ) g1 ρ H σ .refl j ev⟩
 |cons _ _=>obtain⟨r,e,_⟩:=g1;cases e⟩
theorem cA {es:List Expr}{fg:D->aa->DM aa}{fgs:List D->aa->DM aa} (h1:DG X E e fg) (h2:DGs X E es fgs) (hs:(assignEach (e::es) X.env).map (·.2)=assign e X.env::(assignEach es X.env).map (·.2):=by rfl):DGs X E (e::es) (jy fg fgs):=
 ⟨PGs.mono (pgs_cons h1.h h2.h hs) fun vs σ H Q h=>by
  obtain⟨ρ,δ,M,ds,ev,j,c,g1⟩:=h
  cases c with
  |nil=>obtain⟨r,e,_⟩:=g1;cases e
  |cons c1 c2=>
    have g1:Go X.mg E (Ev X.mg) Q ρ H (fg _ δ>>=fun δ'=>fgs _ δ') M:=g1
    exact⟨_,_,rfl,ρ,δ,M,_,ev,j,c1,g1.bind fun ρ1 H1 M1 σ1 δ1 e1 j1 ev1 g2=>⟨ρ1,δ1,M1,_,ev1,j1,c2.mono e1,g2⟩⟩⟩
def gT(n:Nat)(fs:List D->aa->DM aa):D->aa->DM aa
 |.tup l,δ=>if l.length=n then fs l δ else stuck
 |_,_=>stuck
theorem lL {es:List Expr}{k:Nat}{n:Nat}{fgs:List D->aa->DM aa} (hc:X.calm=true) (h:DGs X E es fgs) (hn:(assignEach es X.env).length=n:=by rfl) (hst:(assignEach es X.env).findIdx? (·.1)=none:=by rfl):DG X E (.Tuple es k pos) (gT n fgs):=
 ⟨PG.mono (pg_tup hc h.h hn hst) fun v σ H Q h=>by
  obtain⟨ρ,δ,M,d,ev,j,c,g1⟩:=h
  cases c with
  | tup nx a c=>
    have g1:Go X.mg E (Ev X.mg) Q ρ H (if _ then _ else _) M:=g1
    split at g1
    ·rename_i hl
     exact⟨_,_,rfl,SqT.of a,by rw[c.len];exact hl,ρ,δ,M,_,ev,j,c,g1⟩
    ·obtain⟨r,e,_⟩:=g1;cases e
  |_=>obtain⟨r,e,_⟩:=g1;cases e⟩
def uK:D->D->D->DM Unit
 | .ref n,.int k,v=>fun M=>match M[n]? with
   |some (.lst l)=>match ixN l.length k with
     |some j=>some (.ok (),M.set n (.lst (l.set j v)))
     |none=>none
   |_=>none
 |_,_,_=>stuck
def yo(mg:Str->Option Value)(E:XK)(gs:D->D->D->DM Unit):TSet:=fun o i v H Q=>∃ρ M dO di dv,J mg ρ M H∧Cv mg ρ H o dO∧Cv mg ρ H i di∧Cv mg ρ H v dv∧Go mg E (fun _ _ (_:Unit) (_:Unit)=>True) (fun _ H'=>Q H') ρ H (gs dO di dv) M
theorem uL:PSet X (yo X.mg E uK):=by
 intro pins s σ H o i v ov iv u Q I ro ri rv h
 obtain⟨ρ,M,dO,di,dv,j,co,ci,cv,r,e,p⟩:=h
 cases co with
 | ref hn=>
   cases ci with
   | int k=>
     rename_i n a
     have e:(match M[n]? with
      |some (.lst l)=>match ixN l.length k with
        |some j=>some (R.ok (),M.set n (.lst (l.set j dv)))
        |none=>none
      |_=>none)=some r:=e
     split at e
     ·rename_i l hl
      split at e
      ·rename_i q hq
       cases e
       obtain⟨xs,hx,c⟩:=j.obj _ _ _ hn hl
       have x:Ext ρ H ρ (upd H a (.lst (xs.set q v))):=.upd (List.mem_of_getElem? hn)
       exact set_list (X:=X) pins s σ H _ _ v ov iv u Q I ro ri rv ⟨_,_,_,q,rfl,rfl,hx,by rw[c.len];exact hq,p ρ _ () x (j.upd hn ⟨_,upd_same,(c.set cv q).mono x⟩) trivial⟩
      ·cases e
     ·cases e
   |_=>cases e
 |_=>cases e
theorem vg {o i:Expr}{fo fi:aa->DM D}{gs:D->D->D->DM Unit} (ho:DE X E o fo) (hi:DE X E i fi) (hs:PSet X (yo X.mg E gs))
  (ha:∀v,assign (.Subscript o i pos) X.env v=(do
    let ov ←holding [v] (eval o X.env)
    let iv ←holding [v,ov] (eval i X.env)
    standAt pos
    holding [v,ov,iv] (setItem ov iv v)
    release [v,ov,iv] []):=by intro _;rfl):DG X E (.Subscript o i pos) (fun d δ=>fo δ>>=fun o=>fi δ>>=fun i=>gs o i d>>=fun _=>pure δ):=
 ⟨PG.mono (pg_sub ho.h hi.h hs ha) fun v σ H Q h=>by
  obtain⟨ρ,δ,M,d,ev,j,c,g1⟩:=h
  exact⟨ρ,δ,M,ev,j,g1.bind fun ρ1 H1 M1 x dx e1 j1 c1 g2=>⟨ρ1,δ,M1,ev.mono e1,j1,g2.bind fun ρ2 H2 M2 y dy e2 j2 c2 g3=>⟨ρ2,M2,dx,dy,d,j2,c1.mono e2,c2,(c.mono e1).mono e2,g3.bind fun ρ3 H3 M3 _ _ e3 j3 _ g4=>g4.pure ρ3 H3 σ .refl j3 (((ev.mono e1).mono e2).mono e3)⟩⟩⟩⟩
theorem jw{tg:Expr}{fg:D->aa->DM aa}(he:DE X E e fe)(hg:DG X E tg fg)(hs:swapsWithSole [tg] e pos.line X.env=pure false:=by rfl)(hw:swappedStores [tg] e X.env=pure none:=by rfl)
  (h1:(assignEach [tg] X.env).map (·.2)=[assign tg X.env]:=by rfl):DS X E (.Assign [tg] e pos) (fun δ=>fe δ>>=fun d=>fg d δ>>=fun δ'=>pure (.nx δ')):=⟨PS.mono (ps_asg he.h hg.h hs hw h1) fun D σ H h=>by
 obtain⟨ρ,δ,M,ev,j,g1⟩:=h
 exact⟨ρ,δ,M,ev,j,g1.bind fun ρ1 H1 M1 v d e1 j1 c1 g2=>⟨ρ1,δ,M1,d,ev.mono e1,j1,c1,g2.bind fun ρ2 H2 M2 σ2 δ2 e2 j2 ev2 g3=>g3.pure ρ2 H2 σ2 .refl j2 ev2⟩⟩⟩
def Be(i j:Nat)(fa:aa->DM (List D)):aa->DM Fl:=fun δ=>fa δ>>=fun l=>match l with
 |[v,w]=>pure (.nx ((δ.set i (some v)).set j (some w)))
 |_=>stuck
theorem vp {i j:Nat}{x y:Str}{a b:Expr}{fa:aa->DM (List D)}{px py pt:Pos}{kt k2 pt2} (hc:X.calm=true) (hN:X.N.Nodup) (hi:X.N[i]?=some x) (hj:X.N[j]?=some y) (hij:i≠j)
  (hx:X.env.scope.names.lookup x=some .local) (hy:X.env.scope.names.lookup y=some .local) (ha:DA X E [a,b] fa)
  (hw:swappedStores [.Tuple [.Name x px,.Name y py] kt pt] (.Tuple [a,b] k2 pt2) X.env=pure (some [x,y]))
  (hs:swapsWithSole [.Tuple [.Name x px,.Name y py] kt pt] (.Tuple [a,b] k2 pt2) pos.line X.env=pure false:=by rfl) :
  DS X E (.Assign [.Tuple [.Name x px,.Name y py] kt pt] (.Tuple [a,b] k2 pt2) pos) (Be i j fa):=⟨PS.mono (ps_par hc hN hi hj hij hx hy ha.h.h hw hs) fun D σ H h=>by
 obtain⟨ρ,δ,M,ev,j,g1⟩:=h
 refine⟨ρ,δ,M,ev,j,bF.bind g1 fun ρ1 H1 M1 v d e1 j1 c1 g2=>?_⟩
 cases c1 with
 |nil=>obtain⟨r,e,_⟩:=g2;cases e
 | cons c1 c2=>cases c2 with
   |nil=>obtain⟨r,e,_⟩:=g2;cases e
   |cons c2 c3=>cases c3 with
     |nil=>exact⟨_,_,rfl,bF.pure (a:=.nx _) g2 ρ1 H1 _ .refl j1 (((ev.mono e1).set c1).set c2)⟩
     |cons _ _=>obtain⟨r,e,_⟩:=g2;cases e⟩
theorem xx:bC X E (inplaceOp .Add) (fun x y=>rd (cI (fun _ _=>true) (fun i j=>.int (i+j)) x y)):=qU iop_add
end
inductive Itn where
 |fix (l:List D) | dyn (n:Nat)
def Itn.next:Itn->Nat->Mo->Option (Option D)
 |.fix l,i,_=>some l[i]?
 |.dyn n,i,M=>match M[n]? with
   |some (.lst l)=>some l[i]?
   |_=>none
structure ItOk(mg:Str->Option Value)(ρ:Rh)(H:Hp)(Jt:It)(it:Itn):Prop where
 item:∀(i:Nat) ρ' H' M' d,Kp ρ H ρ' H'->J mg ρ' M' H'->it.next i M'=some (some d)->Jt.go i H'∧∀x H2,Jt.yld i H' x H2->Ext ρ' H' ρ' H2∧J mg ρ' M' H2∧Cv mg ρ' H2 x d
 stop:∀(i:Nat) ρ' H' M',Kp ρ H ρ' H'->J mg ρ' M' H'->it.next i M'=some none->Jt.stop i H'
def tI(mg:Str->Option Value)(E:XK)(fi:aa->DM Itn):TI:=fun σ H R=>tD mg E (ItOk mg) fi σ H R
structure DI(X:Cx)(E:XK)(tg it:Expr)(fi:aa->DM Itn):Prop where
 h:PI X tg it (tI X.mg E fi)
theorem PI.mono{X:Cx}{tg e:Expr}{t t':TI}(h:PI X tg e t)(f:∀σ H Q,t' σ H Q->t σ H Q):PI X tg e t':=fun pins s σ H Q I q=>h pins s σ H Q I (f σ H Q q)
theorem Ag{K:PySem.W.Frag}{mg:Str->Option Value}{ρ:Rh}{H:Hp}{a:Addr}{xs:List V}{ds:List D}(n:a∉ρ)(h:H a=some (.lst xs))(c:Cvs mg ρ H xs ds):ItOk mg ρ H (Itl K a) (.fix ds) where
 item:=fun i ρ' H' M' d e j q=>by
  have hq:ds[i]?=some d:=Option.some.inj q
  obtain⟨v,hv,cv⟩:=c.get hq
  have h':=(e.keep _ _ h n).2
  refine⟨⟨xs,v,SqL.of h',hv⟩,fun x H2 y=>?_⟩
  obtain⟨rfl,y⟩:=y
  have:=y xs (SqL.of h')
  rw[hv] at this;cases this
  exact⟨.refl,j,cv.kp e⟩
 stop:=fun i ρ' H' M' e j q=>by
  have hq:ds[i]?=none:=Option.some.inj q
  exact⟨xs,SqL.of (e.keep _ _ h n).2,by rw[c.len];exact List.getElem?_eq_none_iff.mp hq⟩
theorem Ah{K:PySem.W.Frag}{mg:Str->Option Value}{ρ:Rh}{H:Hp}{a:Addr}{xs:List V}{ds:List D}(n:a∉ρ)(h:H a=some (.tup xs))(c:Cvs mg ρ H xs ds):ItOk mg ρ H (Itt K a) (.fix ds) where
 item:=fun i ρ' H' M' d e j q=>by
  have hq:ds[i]?=some d:=Option.some.inj q
  obtain⟨v,hv,cv⟩:=c.get hq
  have h':=(e.keep _ _ h n).2
  refine⟨⟨xs,v,SqT.of h',hv⟩,fun x H2 y=>?_⟩
  obtain⟨rfl,y⟩:=y
  have:=y xs (SqT.of h')
  rw[hv] at this;cases this
  exact⟨.refl,j,cv.kp e⟩
 stop:=fun i ρ' H' M' e j q=>by
  have hq:ds[i]?=none:=Option.some.inj q
  exact⟨xs,SqT.of (e.keep _ _ h n).2,by rw[c.len];exact List.getElem?_eq_none_iff.mp hq⟩
theorem Af {K:PySem.W.Frag}{mg:Str->Option Value}{ρ:Rh}{H:Hp}{a:Addr}{n:Nat} (h:ρ.st[n]?=some a):ItOk mg ρ H (Itl K a) (.dyn n) where
 item:=fun i ρ' H' M' d e j q=>by
  have h':=e.at h
  unfold Itn.next at q
  dsimp only at q
  split at q
  ·rename_i l hl
   obtain⟨xs,hx,c⟩:=j.obj n a _ h' hl
   have hq:l[i]?=some d:=Option.some.inj q
   obtain⟨v,hv,cv⟩:=c.get hq
   refine⟨⟨xs,v,SqL.of hx,hv⟩,fun x H2 y=>?_⟩
   obtain⟨rfl,y⟩:=y
   have:=y xs (SqL.of hx)
   rw[hv] at this;cases this
   exact⟨.refl,j,cv⟩
  ·cases q
 stop:=fun i ρ' H' M' e j q=>by
  have h':=e.at h
  unfold Itn.next at q
  dsimp only at q
  split at q
  ·rename_i l hl
   obtain⟨xs,hx,c⟩:=j.obj n a _ h' hl
   have hq:l[i]?=none:=Option.some.inj q
   exact⟨xs,SqL.of hx,by rw[c.len];exact List.getElem?_eq_none_iff.mp hq⟩
  ·cases q
def jU(lo:Int)(n:Nat):List D:=(List.range n).map fun i=>.int (lo+(i:Nat))
theorem tO{lo:Int}{n i:Nat}:(jU lo n)[i]?=if i<n then some (.int (lo+(i:Nat))) else none:=by
 unfold jU
 rw[List.getElem?_map]
 by_cases h:i<n
 ·rw[if_pos h,List.getElem?_range h];rfl
 ·rw[if_neg h,List.getElem?_eq_none_iff.mpr (by simp;omega)];rfl
theorem vH {mg:Str->Option Value}{ρ:Rh}{H:Hp}{lo:Int}{n:Nat}:ItOk mg ρ H (Itr lo n) (.fix (jU lo n)) where
 item:=fun i ρ' H' M' d e j q=>by
  have hq:(jU lo n)[i]?=some d:=Option.some.inj q
  rw[tO] at hq
  split at hq
  ·rename_i h
   cases hq
   refine⟨h,fun x H2 y=>?_⟩
   obtain⟨rfl,rfl⟩:=y
   exact⟨.refl,j,.int _⟩
  ·cases hq
 stop:=fun i ρ' H' M' e j q=>by
  have hq:(jU lo n)[i]?=none:=Option.some.inj q
  rw[tO] at hq
  split at hq
  ·cases hq
  ·rename_i h;exact Nat.not_lt.mp h
section
variable{X:Cx}{E:XK}{tg:Expr}
def jW(i:Int):Bool:=decide (-(2^62)≤i∧i<2^62)
def jf:List D->Option Itn
 |[.int j]=>if jW j then some (.fix (jU 0 j.toNat)) else none
 |_=>none
def rG:List D->Option Itn
 |[.int i,.int j]=>if jW i&&jW j then some (.fix (jU i (j-i).toNat)) else none
 |_=>none
theorem aU {a:Expr}{fa:aa->DM (List D)}{p pos:Pos} (hg:Gl X "range") (hm:X.mg "range"=none) (ha:DA X E [a] fa) (hs:notStar a=true:=by rfl):DI X E tg (.Call (.Name "range" p) [a] [] pos) (fun δ=>fa δ >>= fun l=>opt (jf l)):=
 ⟨PI.mono (uy hg hm ha.h hs).h fun σ H R h=>by
  obtain⟨ρ,δ,M,ev,j,g1⟩:=h
  refine⟨ρ,δ,M,ev,j,g1.bind fun ρ1 H1 M1 x dx e1 j1 c1 g2=>?_⟩
  obtain⟨it,e,q⟩:=g2.opt
  unfold jf at e
  split at e
  ·split at e
   ·rename_i hk
    cases e
    cases c1 with | cons c1 c2=>
    cases c2;cases c1
    have hk:=of_decide_eq_true hk
    exact⟨_,rfl,hk.1,hk.2,q ρ1 H1 _ .refl j1 vH⟩
   ·cases e
  ·cases e⟩
theorem vh {a b:Expr}{fa:aa->DM (List D)}{p pos:Pos} (hg:Gl X "range") (hm:X.mg "range"=none) (ha:DA X E [a,b] fa) (hs:notStar a=true:=by rfl) (hs2:notStar b=true:=by rfl):DI X E tg (.Call (.Name "range" p) [a,b] [] pos) (fun δ=>fa δ >>= fun l=>opt (rG l)):=
 ⟨PI.mono (uz hg hm ha.h hs hs2).h fun σ H R h=>by
  obtain⟨ρ,δ,M,ev,j,g1⟩:=h
  refine⟨ρ,δ,M,ev,j,g1.bind fun ρ1 H1 M1 x dx e1 j1 c1 g2=>?_⟩
  obtain⟨it,e,q⟩:=g2.opt
  unfold rG at e
  split at e
  ·split at e
   ·rename_i hk
    cases e
    cases c1 with | cons c1 c2=>cases c2 with | cons c2 c3=>
    cases c3;cases c1;cases c2
    have hk:=(Bool.and_eq_true _ _).mp hk
    have h1:=of_decide_eq_true hk.1
    have h2:=of_decide_eq_true hk.2
    exact⟨_,_,rfl,⟨h1.1,h1.2,h2.1,h2.2⟩,q ρ1 H1 _ .refl j1 vH⟩
   ·cases e
  ·cases e⟩
def xU:D->Option Itn
 |.tup l=>some (.fix l)
 |_=>none
def kI:D->Mo->Option Itn
 |.lst l,_=>some (.fix l)
 |.ref n,M=>match M[n]? with
   |some (.lst _)=>some (.dyn n)
   |_=>none
 |_,_=>none
theorem fQ{l:Expr}{fl:aa->DM D}(hl:DE X E l fl):DI X E tg l (fun δ=>fl δ>>=fun d=>opt (xU d)):=⟨PI.mono (pi_tup hl.h) fun σ H R h=>by
 obtain⟨ρ,δ,M,ev,j,g1⟩:=h
 refine⟨ρ,δ,M,ev,j,g1.bind fun ρ1 H1 M1 x dx e1 j1 c1 g2=>?_⟩
 obtain⟨it,e,q⟩:=g2.opt
 unfold xU at e
 split at e
 ·cases e
  cases c1 with | tup n a c=>
  exact⟨_,rfl,⟨_,SqT.of a⟩,q ρ1 H1 _ .refl j1 (Ah n a c)⟩
 ·cases e⟩
theorem eE {l:Expr}{fl:aa->DM D} (hl:DE X E l fl):DI X E tg l (fun δ=>fl δ >>= fun d=>rd (kI d)):=⟨PI.mono (pi_list hl.h) fun σ H R h=>by
 obtain⟨ρ,δ,M,ev,j,g1⟩:=h
 refine⟨ρ,δ,M,ev,j,g1.bind fun ρ1 H1 M1 x dx e1 j1 c1 g2=>?_⟩
 obtain⟨it,e,q⟩:=g2.rd
 unfold kI at e
 split at e
 ·cases e
  cases c1 with | lst n a c=>
  exact⟨_,rfl,⟨_,SqL.of a⟩,q ρ1 H1 _ .refl j1 (Ag n a c)⟩
 ·split at e
  ·rename_i l' hl'
   cases e
   cases c1 with | ref hn=>
   obtain⟨xs,hx,_⟩:=j1.obj _ _ _ hn hl'
   exact⟨_,rfl,⟨xs,SqL.of hx⟩,q ρ1 H1 _ .refl j1 (Af hn)⟩
  ·cases e
 ·cases e⟩
end
def forL (tg:D->aa->DM aa) (fb:aa->DM Fl):List D->aa->DM Fl
 |[],δ=>pure (.nx δ)
 |d::l,δ=>tg d δ>>=fun δ1=>fb δ1>>=fun r=>match r with
   |.nx δ2=>forL tg fb l δ2
   |.ct δ2=>forL tg fb l δ2
   |.bk δ2=>pure (.nx δ2)
   |.rt d=>pure (.rt d)
def iW (tg:D->aa->DM aa) (fb:aa->DM Fl) (n:Nat):Nat->Nat->aa->DM Fl
 |0,_,_=>stuck
 | k + 1,i,δ=>rd (Itn.next (.dyn n) i) >>= fun o=>match o with
   |none=>pure (.nx δ)
   |some d=>tg d δ>>=fun δ1=>fb δ1>>=fun r=>match r with
     |.nx δ2=>iW tg fb n k (i+1) δ2
     |.ct δ2=>iW tg fb n k (i+1) δ2
     |.bk δ2=>pure (.nx δ2)
     |.rt d=>pure (.rt d)
def zY(N:Nat)(tg:D->aa->DM aa)(fb:aa->DM Fl):Itn->aa->DM Fl
 |.fix l=>forL tg fb l
 |.dyn n=>iW tg fb n N 0
theorem bF.rdb{mg:Str->Option Value}{E:XK}{D:Ends}{ρ:Rh}{H:Hp}{M:Mo}{γ:Type}{f:Mo->Option γ}{k:γ->DM Fl}(g:bF mg E D ρ H (L3.rd f>>=k) M):∃a,f M=some a∧bF mg E D ρ H (k a) M:=by
 obtain⟨r,e,p⟩:=g
 have e:DM.bind _ _ M=some r:=e
 unfold DM.bind L3.rd at e
 cases h:f M with
 |none=>rw[h] at e;cases e
 |some a=>rw[h] at e;exact⟨a,rfl,r,e,p⟩
theorem qL {X:Cx}{E:XK}{fg:D->aa->DM aa}{fb:aa->DM Fl}{D:Ends}{σ:L2.St}{H H':Hp}{ρ:Rh}{δ:aa}{M:Mo}{x:V}{d:L3.D}{N:L2.St->Hp->Prop}{again:aa->DM Fl}
  (ev:Ev X.mg ρ H σ δ) (e1:Ext ρ H ρ H') (j1:J X.mg ρ M H') (c1:Cv X.mg ρ H' x d) (ht:bF X.mg E D ρ H (fg d δ>>=fun δ1=>fb δ1>>=fun r=>match r with
    |.nx δ2=>again δ2
    |.ct δ2=>again δ2
    |.bk δ2=>pure (.nx δ2)
    |.rt d=>pure (.rt d)) M) (hN:∀ρ2 δ2 M2 σ2 H2,Ext ρ H ρ2 H2->Ev X.mg ρ2 H2 σ2 δ2->J X.mg ρ2 M2 H2->bF X.mg E D ρ2 H2 (again δ2) M2->N σ2 H2) :
  tG X.mg E fg x σ H' fun σ2 H2=>tS X.mg E fb { D with nx:=N,ct:=N,bk:=D.nx } σ2 H2:=by
 obtain⟨r,er,p⟩:=ht
 have ht':bF X.mg E D ρ H' _ M:=⟨r,er,p.mono e1⟩
 refine⟨ρ,δ,M,d,ev.mono e1,j1,c1,bF.bind ht' fun ρ2 H2 M2 σ2 δ2 e2 j2 ev2 g2=>⟨ρ2,δ2,M2,ev2,j2,g2.seq (fun δ' ρ3 H3 M3 σ3 e3 j3 ev3 g3=>?_) (fun δ' ρ3 H3 M3 σ3 e3 j3 ev3 g3=>?_) (fun δ' ρ3 H3 M3 σ3 e3 j3 ev3 g3=>?_) (fun d' ρ3 H3 M3 v e3 j3 c3 g3=>?_)⟩⟩
 ·exact hN ρ3 δ' M3 σ3 H3 ((e1.trans e2).trans e3) ev3 j3 g3
 ·exact bF.pure (a:=.nx δ') g3 ρ3 H3 σ3 .refl j3 ev3
 ·exact hN ρ3 δ' M3 σ3 H3 ((e1.trans e2).trans e3) ev3 j3 g3
 ·exact bF.pure (a:=.rt d') g3 ρ3 H3 v .refl j3 c3
theorem cY {X:Cx}{E:XK}{tg iter:Expr}{body:List Stmt}{fi:aa->DM Itn}{fg:D->aa->DM aa}{fb:aa->DM Fl}{pos:Pos} (N:Nat) (hp:PassesOwn (model X.prog X.w) X.A X.env X.xe) (hc:X.calm=true) (hi:DI X E tg iter fi) (hg:DG X E tg fg) (hb:DSs X E body fb)
  (hs:∀x,foldedSetIterable iter X.env x=pure x:=by intro _;rfl):DS X E (.For tg iter body [] pos) (fun δ=>fi δ>>=fun it=>zY N fg fb it δ):=⟨PS.mono (ps_for hp hc hi.h hg.h hb.h hs) fun D σ H h=>by
 obtain⟨ρ,δ,M,ev,j,g1⟩:=h
 refine⟨ρ,δ,M,ev,j,g1.bind fun ρ1 H1 M1 Jt it e1 j1 iok g2=>?_⟩
 cases it with
 | fix l=>
   refine⟨fun i m σ H=>∃ρ' δ' M',Ext ρ1 H1 ρ' H∧Ev X.mg ρ' H σ δ'∧J X.mg ρ' M' H∧m=(l.drop i).length∧bF X.mg E D ρ' H (forL fg fb (l.drop i) δ') M',⟨_,ρ1,δ,M1,.refl,ev.mono e1,j1,rfl,g2⟩,?_⟩
   rintro i m σ2 H2 ⟨ρ2,δ2,M2,e2,ev2,j2,rfl,g3⟩
   cases hd:l[i]? with
   |none=>
     have hl:l.drop i=[]:=List.drop_eq_nil_of_le (List.getElem?_eq_none_iff.mp hd)
     rw[hl] at g3
     exact .inl ⟨iok.stop i ρ2 H2 M2 e2.kp j2 (congrArg some hd),bF.pure (a:=.nx δ2) g3 ρ2 H2 σ2 .refl j2 ev2⟩
   |some d=>
     obtain⟨hi',hd'⟩:=List.getElem?_eq_some_iff.mp hd
     have hl:l.drop i=d::l.drop (i+1):=by rw[←hd'];exact List.drop_eq_getElem_cons hi'
     obtain⟨go,yl⟩:=iok.item i ρ2 H2 M2 d e2.kp j2 (congrArg some hd)
     rw[hl] at g3
     refine .inr ⟨go,fun σ' H'=>∃ρ' δ' M',Ext ρ1 H1 ρ' H'∧Ev X.mg ρ' H' σ' δ'∧J X.mg ρ' M' H'∧bF X.mg E D ρ' H' (forL fg fb (l.drop (i+1)) δ') M',fun σ' H' ⟨ρ',δ',M',a1,a2,a3,a4⟩=>⟨_,by rw[List.length_drop,List.length_drop];omega,ρ',δ',M',a1,a2,a3,rfl,a4⟩,fun x H' y=>?_⟩
     obtain⟨x1,x2,x3⟩:=yl x H' y
     exact qL ev2 x1 x2 x3 g3 fun ρ3 δ3 M3 σ3 H3 f1 f2 f3 f4=>⟨ρ3,δ3,M3,e2.trans f1,f2,f3,f4⟩
 | dyn n=>
   refine⟨fun i m σ H=>∃ρ' δ' M',Ext ρ1 H1 ρ' H∧Ev X.mg ρ' H σ δ'∧J X.mg ρ' M' H∧bF X.mg E D ρ' H (iW fg fb n m i δ') M',⟨N,ρ1,δ,M1,.refl,ev.mono e1,j1,g2⟩,?_⟩
   rintro i m σ2 H2 ⟨ρ2,δ2,M2,e2,ev2,j2,g3⟩
   cases m with
   |zero=>obtain⟨r,e,_⟩:=g3;cases e
   | succ m=>
     obtain⟨o,eo,g4⟩:=bF.rdb g3
     cases o with
     |none=>exact .inl ⟨iok.stop i ρ2 H2 M2 e2.kp j2 eo,bF.pure (a:=.nx δ2) g4 ρ2 H2 σ2 .refl j2 ev2⟩
     |some d=>
       obtain⟨go,yl⟩:=iok.item i ρ2 H2 M2 d e2.kp j2 eo
       refine .inr ⟨go,fun σ' H'=>∃ρ' δ' M',Ext ρ1 H1 ρ' H'∧Ev X.mg ρ' H' σ' δ'∧J X.mg ρ' M' H'∧bF X.mg E D ρ' H' (iW fg fb n m (i+1) δ') M',fun σ' H' z=>⟨m,Nat.lt_succ_self _,z⟩,fun x H' y=>?_⟩
       obtain⟨x1,x2,x3⟩:=yl x H' y
       exact qL ev2 x1 x2 x3 g4 fun ρ3 δ3 M3 σ3 H3 f1 f2 f3 f4=>⟨ρ3,δ3,M3,e2.trans f1,f2,f3,f4⟩⟩
def tR(mg:Str->Option Value)(F:List D->DM D):Sp:=fun vs H Q E=>∃ρ M ds,Cvs mg ρ H vs ds∧J mg ρ M H∧Go mg E (Cv mg) Q ρ H (F ds) M
structure DefD(P:Program)(w:World)(K:PySem.W.Frag)(mg:Str->Option Value)(base:Heap)(k:Nat)(x:Str)(ps:List Str)(F:List D->DM D):Prop where
 h:DefC P w K mg base k x ps (tR mg F)
def cD(n:Nat)(ds:List D):aa:=ds.map some++List.replicate (n-ds.length) none
def aP(p n:Nat)(fb:aa->DM Fl)(ds:List D):DM D:=if ds.length=p then fb (cD n ds)>>=fun r=>match r with
 |.nx _=>pure .non
 |.rt d=>pure d
 |_=>stuck else stuck
theorem nA{mg:Str->Option Value}{ρ:Rh}{H:Hp}{N:List Str}{vs:List V}{ds:List D}(c:Cvs mg ρ H vs ds):Ev mg ρ H (L2.start N vs) (cD N.length ds):=by
 unfold L2.start cD
 refine⟨by simp[c.len],fun i d q=>?_⟩
 by_cases hi:i<ds.length
 ·rw[List.getElem?_append_left (by rw[List.length_map];exact hi),List.getElem?_map] at q
  obtain⟨d',h1,h2⟩:=Option.map_eq_some_iff.mp q
  cases h2
  obtain⟨v,hv,cv⟩:=c.get h1
  exact⟨v,by rw[List.getElem?_append_left (by rw[List.length_map,c.len];exact hi),List.getElem?_map,hv];rfl,cv⟩
 ·rw[List.getElem?_append_right (by rw[List.length_map];omega),List.getElem?_replicate] at q
  split at q<;>cases q
section
variable{P:Program}{w:World}{K:PySem.W.Frag}{mg:Str->Option Value}{base:Heap}{k:Nat}{x:Str}{N ps:List Str}{st:Stmt}
theorem bF.aP{E:XK}{Q:VK}{ρ:Rh}{H:Hp}{M:Mo}{n p:Nat}{fb:aa->DM Fl}{ds:List D}(g:Go mg E (Cv mg) Q ρ H (L3.aP p n fb ds) M):ds.length=p∧bF mg E { nx:=fun _ H'=>Q .non H',rt:=Q } ρ H (fb (cD n ds)) M:=by
 obtain⟨r,e,p⟩:=g
 unfold L3.aP at e
 split at e
 rotate_left
 ·cases e
 rename_i hl
 refine⟨hl,?_⟩
 have e:DM.bind _ _ M=some r:=e
 unfold DM.bind at e
 split at e
 ·cases e
 ·rename_i c M' em
  cases e
  exact⟨_,em,p⟩
 ·rename_i a M' em
  refine⟨_,em,?_⟩
  cases a with
  |nx δ'=>cases e;exact fun ρ1 H1 b x j c=>p ρ1 H1 .non x j .non
  |rt d=>cases e;exact fun ρ1 H1 b x j c=>p ρ1 H1 b x j c
  |bk δ'=>cases e
  |ct δ'=>cases e
theorem DefAt.okD {fb:aa->DM Fl} (D:DefAt K mg x st) (S:FnScope N ps (defScope st)) (hb:∀ (kV doc pm:Value) (an:Option Addr) (cdv ct:Value) (us:List Value),us.length=ps.length->bindArgs (PySem.W.fnOf x x (defArgs st) (defBody st) (defScope st) .none kV doc pm an cdv ct) ⟨us,[]⟩=pure (ps.zip us))
  (hbody:∀(f:Addr) (cdv:Value) (A:Around) (outer:List Env) (s:Shared) (H:Hp) (E:XK),Room k (A.deeper (envOfC x (defScope st) s.heap.objs.size f cdv))->
    DSs (gY P w K mg base N x (defScope st) f cdv A outer s H E) E (defBody st) fb):DefD P w K mg base (k+1) x ps (aP ps.length N.length fb):=⟨by
 refine D.okE S hb (fun vs H Q E h=>?_) fun f cdv A outer s H vs Q E hr h=>?_
 ·obtain⟨ρ,M,ds,c,j,g⟩:=h
  rw[c.len];exact (bF.aP g).1
 obtain⟨ρ,M,ds,c,j,g⟩:=h
 exact⟨_,(hbody f cdv A outer s H E hr).h,ρ,_,M,nA c,j,(bF.aP g).2⟩⟩
end
mutual
inductive Fz(M:Mo)(k:Nat):D->D->Prop
 |non:Fz M k .non .non
 |bl (b:Bool):Fz M k (.bl b) (.bl b)
 |int (i:Int):Fz M k (.int i) (.int i)
 |str (x:Str):Fz M k (.str x) (.str x)
 |tup {l l':List D}:Fzs M k l l'->Fz M k (.tup l) (.tup l')
 |lst {l l':List D}:Fzs M k l l'->Fz M k (.lst l) (.lst l')
 |dic {ks:List Key}{l l':List D}:Fzs M k l l'->Fz M k (.dic ks l) (.dic ks l')
 |obj {c:Str}{ns:List Str}{l l':List D}:Fzs M k l l'->Fz M k (.obj c ns l) (.obj c ns l')
 |scr (ns:List Int):Fz M k (.scr ns) (.scr ns)
 |old {n:Nat}:n<k->Fz M k (.ref n) (.ref n)
 |new {n:Nat}{l l':List D}:k≤n->M[n]?=some (.lst l)->Fzs M k l l'->Fz M k (.ref n) (.lst l')
 |cls (c:Str):Fz M k (.cls c) (.cls c)
 |ty (c:String):Fz M k (.ty c) (.ty c)
 |exn (a:Addr):Fz M k (.exn a) (.exn a)
inductive Fzs(M:Mo)(k:Nat):List D->List D->Prop
 |nil:Fzs M k [] []
 |cons {d d':D}{l l':List D}:Fz M k d d'->Fzs M k l l'->Fzs M k (d::l) (d'::l')
end
def Ep(M:Mo)(k:Nat):DO->DO->Prop
 |.lst l,.lst l'=>Fzs M k l l'
 |.dic ks l,.dic ks' l'=>ks=ks'∧Fzs M k l l'
 |.ins c ns l,.ins c' ns' l'=>c=c'∧ns=ns'∧Fzs M k l l'
 |_,_=>False
def Dd(M':Mo)(k:Nat)(M1:Mo):Prop:=M1.length=k∧∀(n:Nat) o,M1[n]?=some o->∃o',M'[n]?=some o'∧Ep M' k o' o
section
variable{mg:Str->Option Value}{ρ ρ':Rh}{H:Hp}{M:Mo}{k:Nat}
structure Sub(ρ ρ':Rh)(k:Nat):Prop where
 st:∃τ,ρ'.st=ρ.st++τ
 vo:ρ'.vo=ρ.vo
 len:ρ.st.length=k
theorem Sub.out(s:Sub ρ ρ' k){a:Addr}(h:a∉ρ'):a∉ρ:=fun z=>by
 obtain⟨τ,e⟩:=s.st
 rcases z with z | z
 ·exact h (.inl (by rw[e];exact List.mem_append_left _ z))
 ·exact h (.inr (by rw[s.vo];exact z))
mutual
theorem Cv.freeze (s:Sub ρ ρ' k) (j:J mg ρ' M H):∀ {d d':D}{v:V},Fz M k d d'->Cv mg ρ' H v d->Cv mg ρ H v d'
 |_,_,_,.non,c=>by cases c;exact .non
 |_,_,_,.bl b,c=>by cases c;exact .bl b
 |_,_,_,.int b,c=>by cases c;exact .int b
 |_,_,_,.str b,c=>by cases c;exact .str b
 |_,_,_,.tup f,c=>by cases c with | tup n h c=>exact .tup (s.out n) h (Cvs.freeze s j f c)
 |_,_,_,.lst f,c=>by cases c with | lst n h c=>exact .lst (s.out n) h (Cvs.freeze s j f c)
 |_,_,_,.dic f,c=>by cases c with | dic n h l c=>exact .dic (s.out n) h l (Cvs.freeze s j f c)
 |_,_,_,.obj f,c=>by cases c with | obj n m h l c=>exact .obj (s.out n) m h l (Cvs.freeze s j f c)
 |_,_,_,.scr ns,c=>by cases c with | scr n h=>exact .scr (s.out n) h
 |_,_,_,.old hn,c=>by
   cases c with | ref h=>
   obtain⟨τ,e⟩:=s.st
   rw[e,List.getElem?_append_left (by rw[s.len];exact hn)] at h
   exact .ref h
 | _,_,_,.new (n:=n) hn hm f,c=>by
   cases c with | ref h=>
   rename_i a
   obtain⟨xs,hx,c⟩:=j.obj _ _ _ h hm
   refine .lst (fun z=>?_) hx (Cvs.freeze s j f c)
   rcases z with z | z
   ·obtain⟨m,hm'⟩:=List.mem_iff_getElem?.mp z
    obtain⟨τ,e⟩:=s.st
    have hl:=(List.getElem?_eq_some_iff.mp hm').1
    have h2:ρ'.st[m]?=some a:=by rw[e,List.getElem?_append_left hl];exact hm'
    have:=j.inj h h2
    have:=s.len
    omega
   ·exact (j.vol a (by rw[s.vo];exact z)).1 (List.mem_of_getElem? h)
 |_,_,_,.cls b,c=>by cases c with | cls h=>exact .cls h
 |_,_,_,.ty b,c=>by cases c;exact .ty b
 |_,_,_,.exn b,c=>by cases c;exact .exn b
theorem Cvs.freeze(s:Sub ρ ρ' k)(j:J mg ρ' M H):∀{d d':List D}{v:List V},Fzs M k d d'->Cvs mg ρ' H v d->Cvs mg ρ H v d'
 |_,_,_,.nil,c=>by cases c;exact .nil
 |_,_,_,.cons f fs,c=>by cases c with | cons c cs=>exact .cons (Cv.freeze s j f c) (Cvs.freeze s j fs cs)
end
theorem J.freeze {M1:Mo} (s:Sub ρ ρ' k) (j:J mg ρ' M H) (hk:ρ.st.length=M1.length) (f:Dd M k M1):J mg ρ M1 H:=by
 obtain⟨τ,e⟩:=s.st
 refine⟨hk,?_,fun n a o h1 h2=>?_,fun a ha=>?_⟩
 ·have:=j.nd
  rw[e] at this
  exact (List.nodup_append.mp this).1
 ·obtain ⟨o',h3,fo⟩:=f.2 n o h2
  have hl:=(List.getElem?_eq_some_iff.mp h1).1
  have c:=j.obj n a o' (by rw[e,List.getElem?_append_left hl];exact h1) h3
  cases o' with
  |lst l=>cases o with
    |lst l'=>obtain⟨xs,hx,c⟩:=c;exact⟨xs,hx,Cvs.freeze s j fo c⟩
    |dic _ _=>exact (show False from fo).elim
    |ins _ _ _=>exact (show False from fo).elim
  |dic ks l=>cases o with
    |lst l'=>exact (show False from fo).elim
    |dic ks' l'=>obtain⟨xs,hx,q,c⟩:=c;obtain⟨rfl,fo⟩:=fo;exact⟨xs,hx,q,Cvs.freeze s j fo c⟩
    |ins _ _ _=>exact (show False from fo).elim
  |ins c' ns l=>cases o with
    |lst l'=>exact (show False from fo).elim
    |dic _ _=>exact (show False from fo).elim
    |ins c'' ns' l'=>obtain⟨C,dx,xs,m,hx,q,c⟩:=c;obtain⟨rfl,rfl,fo⟩:=fo;exact⟨C,dx,xs,m,hx,q,Cvs.freeze s j fo c⟩
 ·obtain⟨x,xs,h⟩:=j.vol a (by rw[s.vo];exact ha)
  exact⟨fun z=>x (by rw[e];exact List.mem_append_left _ z),xs,h⟩
end
section
variable{X:Cx}{E:XK}{j k:Nat}{ps:List Str}{F:List D->DM D}{x:Str}{p pos:Pos}{e:Expr}{es:List Expr}{fs:aa->DM (List D)}
theorem aB(D:DefD X.prog X.w X.K X.mg X.base j x ps F)(hr:Room k X.A)(hx:Passes (dW X.prog X.w) X E)(ha:DA X E (e::es) fs)(hjk:j≤k:=by decide)(hg:Gl X x:=by rfl)(hdb:(x==("__debug__":Str))=false:=by decide)
  (he:notStar e=true:=by rfl) (hpl:(backTo pos (starEach es X.env)).any (·.1)=false:=by rfl) :
  DE X E (.Call (.Name x p) (e::es) [] pos) (fun δ=>fs δ>>=F):=⟨PE.mono (vP D.h hr hx ha.h hjk hg hdb he hpl) fun σ H Q h=>by
 obtain⟨ρ,δ,M,ev,j,g1⟩:=h
 refine⟨ρ,δ,M,ev,j,g1.bind fun ρ1 H1 M1 xs dxs e1 j1 c1 g2=>?_⟩
 rw[List.append_nil]
 exact⟨ρ1,M1,dxs,c1,j1,g2⟩⟩
def rC(mg:Str->Option Value)(E:XK)(g:List D->DM D):List V->Hp->VK->Prop:=fun vs H Q=>∃ρ M ds,J mg ρ M H∧Cvs mg ρ H vs ds∧Go mg E (Cv mg) Q ρ H (g ds) M
def CallD(X:Cx)(E:XK)(f:Value)(g:List D->DM D):Prop:=CallR X f (rC X.mg E g)
theorem aL{id:String}{g:List D->DM D}(hc:CallD X E (.builtin id) g)(hm:X.mg x=none)(ha:DA X E (e::es) fs)(hg:Gl X x:=by rfl)(hv:bootBuiltins x=some (.builtin id):=by decide +kernel)(hn:x≠"__name__":=by decide)(hdb:(x==("__debug__":Str))=false:=by decide)
  (he:notStar e=true:=by rfl) (hpl:(backTo pos (starEach es X.env)).any (·.1)=false:=by rfl) :
  DE X E (.Call (.Name x p) (e::es) [] pos) (fun δ=>fs δ>>=g):=⟨PE.mono (Cg hc hm ha.h hg hv hn hdb he hpl) fun σ H Q h=>by
 obtain⟨ρ,δ,M,ev,j,g1⟩:=h
 exact⟨ρ,δ,M,ev,j,g1.bind fun ρ1 H1 M1 xs dxs e1 j1 c1 g2=>⟨ρ1,M1,dxs,j1,c1,g2⟩⟩⟩
theorem lK{T:String}{g:List D->DM D}(hc:CallD X E (.type T) g)(hm:X.mg x=none)(ha:DA X E (e::es) fs)(hg:Gl X x:=by rfl)(hv:bootBuiltins x=some (.type T):=by decide +kernel)(hn:x≠"__name__":=by decide)(hdb:(x==("__debug__":Str))=false:=by decide)
  (he:notStar e=true:=by rfl) (hpl:(backTo pos (starEach es X.env)).any (·.1)=false:=by rfl) :
  DE X E (.Call (.Name x p) (e::es) [] pos) (fun δ=>fs δ>>=g):=⟨PE.mono (Cj hc hm ha.h hg hv hn hdb he hpl) fun σ H Q h=>by
 obtain⟨ρ,δ,M,ev,j,g1⟩:=h
 exact⟨ρ,δ,M,ev,j,g1.bind fun ρ1 H1 M1 xs dxs e1 j1 c1 g2=>⟨ρ1,M1,dxs,j1,c1,g2⟩⟩⟩
theorem CallD.of{f:Value}{r:List V->Hp->VK->Prop}{g:List D->Mo->Option D}(hr:CallR X f r)
  (h:∀vs H Q ρ M ds d,J X.mg ρ M H->Cvs X.mg ρ H vs ds->g ds M=some d->(∀ρ' H' v,Ext ρ H ρ' H'->J X.mg ρ' M H'->Cv X.mg ρ' H' v d->Q v H')->r vs H Q):CallD X E f (fun l=>rd (g l)):=by
 intro pins s σ H vs us Q I rs q
 obtain⟨ρ,M,ds,j,c,go⟩:=q
 obtain⟨d,e,p⟩:=go.rd
 exact hr pins s σ H vs us Q I rs (h vs H Q ρ M ds d j c e p)
end
section
variable{X:Cx}{E:XK}{mg:Str->Option Value}{ρ:Rh}{H:Hp}{M:Mo}
theorem Cvs.one{vs:List V}{d:D}(c:Cvs mg ρ H vs [d]):∃v,vs=[v]∧Cv mg ρ H v d:=by
 cases c with
 |cons c c2=>cases c2;exact⟨_,rfl,c⟩
theorem Cvs.two {vs:List V}{d e:D} (c:Cvs mg ρ H vs [d,e]):∃ v w,vs=[v,w]∧Cv mg ρ H v d∧Cv mg ρ H w e:=by
 cases c with
 |cons c c2=>
   obtain⟨w,rfl,k⟩:=c2.one
   exact⟨_,_,rfl,c,k⟩
def fZ:List D->Mo->Option D
 |[.tup l],_=>some (.int l.length)
 |[.scr l],_=>some (.int l.length)
 |[.str x],_=>if x.length≤sizeLine then some (.int x.length) else none
 |[d],M=>(aV d M).map fun l=>.int l.length
 |_,_=>none
theorem call_lenD:CallD X E (.builtin "len") (fun l=>rd (fZ l)):=CallD.of (call_len_seq.or call_len_str) fun vs H Q ρ M ds d j c e q=>by
 unfold fZ at e
 split at e
 ·cases e
  obtain⟨v,rfl,k⟩:=c.one
  replace c:=k
  cases c with | tup n a c=>
  exact .inl ⟨_,_,rfl,.inr (SqT.of a),by rw[c.len];exact q ρ H _ .refl j (.int _)⟩
 ·cases e
  obtain⟨v,rfl,k⟩:=c.one
  replace c:=k
  cases c with | scr n a=>
  exact .inl ⟨_,_,rfl,.inl (.inl a),by rw[List.length_map];exact q ρ H _ .refl j (.int _)⟩
 ·split at e
  ·cases e
   obtain⟨v,rfl,k⟩:=c.one
   replace c:=k
   cases c
   exact .inr ⟨_,rfl,‹_›,q ρ H _ .refl j (.int _)⟩
  ·cases e
 ·obtain⟨l,h1,rfl⟩:=Option.map_eq_some_iff.mp e
  obtain⟨v,rfl,k⟩:=c.one
  replace c:=k
  obtain⟨a,xs,rfl,ha,c⟩:=cZ j c h1
  exact .inl ⟨_,_,rfl,.inl (SqL.of ha),by rw[c.len];exact q ρ H _ .refl j (.int _)⟩
 ·cases e
def Dt:List D->Mo->Option D
 |[.int i],_=>some (.int (if i<0 then -i else i))
 |_,_=>none
def uw:List D->Mo->Option D
 |[.int i,.int j],_=>some (.int (if j > i then j else i))
 |_,_=>none
def Ca:List D->Mo->Option D
 |[.int i,.int j],_=>some (.int (if j<i then j else i))
 |_,_=>none
theorem ug(hc:X.calm=true):CallD X E (.builtin "max") (fun l=>rd (uw l)):=CallD.of (call_max2 hc) fun vs H Q ρ M ds d j c e q=>by
 unfold uw at e
 split at e
 ·cases e
  obtain⟨v,w,rfl,k,c2⟩:=c.two
  replace c:=k
  cases c;cases c2
  exact⟨_,_,rfl,q ρ H _ .refl j (.int _)⟩
 ·cases e
def fM:D->Mo->Option (List D)
 |.tup l,_=>some l
 |d,M=>aV d M
theorem rJ(j:J mg ρ M H){x:V}{d:D}{l:List D}(c:Cv mg ρ H x d)(e:fM d M=some l):∃a xs,x=.ref a∧(H a=some (.lst xs)∨H a=some (.tup xs))∧Cvs mg ρ H xs l:=by
 unfold fM at e
 split at e
 ·cases e
  cases c with | tup n a c=>exact⟨_,_,rfl,.inr a,c⟩
 ·obtain⟨a,xs,rfl,ha,c⟩:=cZ j c e
  exact⟨a,xs,rfl,.inl ha,c⟩
def intsOf:List D->Option (List Int)
 |[]=>some []
 |.int i::l=>(intsOf l).map (i::·)
 |_=>none
theorem ints_of:∀ {xs:List V}{l:List D}{ns:List Int},Cvs mg ρ H xs l->intsOf l=some ns->xs=ns.map V.int
 |_,_,_,.nil,e=>by cases e;rfl
 | _,_,_,.cons (d:=d) c cs,e=>by
   cases d with
   |int i=>
     obtain⟨ms,h1,rfl⟩:=Option.map_eq_some_iff.mp e
     cases c
     rw[ints_of cs h1];rfl
   |_=>cases e
theorem u5 (hh:X.A.handled=none):CallR X (.builtin "sum") (fun vs H Q=>∃ (l:Addr) (ns:List Int),vs=[.ref l]∧(H l=some (.lst (ns.map V.int))∨H l=some (.tup (ns.map V.int)))∧Q (.int ns.sum) H):=by
 intro pins s σ H vs us Q I r h
 obtain⟨l,ns,rfl,hH,q⟩:=h
 obtain⟨u,rfl,ru⟩:=vals1 r
 cases ru
 have fin:∀(its:List Value),IntsAre its ns->∃xs,its.toArray=intItems xs∧preSum (numAt xs) xs.size=ns.sum:=fun its hi=>by
  obtain⟨xs,hx⟩:=hi.allInts.items
  have hn:numsOf its.toArray.toList=ns:=by rw[show its.toArray.toList=its from rfl,hi.numsOf]
  rw[hx] at hn
  rw[PySem.nums_intItems] at hn
  exact⟨xs,hx,by rw[PySem.preSum_eq,List.take_of_length_le (by simp),hn]⟩
 rcases hH with hH | hH
 ·obtain ⟨its,rv,p,hz⟩:=I.list (SqL.of (K:=X.K) hH)
  obtain⟨xs,hx,hs⟩:=fin its (intsAre_of rv)
  have hl:=p.isList
  rw[hx] at hl
  obtain⟨o,ho,hc,n,hd⟩:=id hl
  have hne:l≠s.heap.objs.size:=Nat.ne_of_lt (Heap.lt_size ho)
  have hsz:(intItems xs).size=xs.size:=by simp[intItems]
  have W:=(Walks.list (prog:=X.prog) (w:=X.w) (A:=X.A.in1) hh s.heap.objs.size l hne (intItems xs)).toS
  rw[hsz] at W
  refine call_sum_walkAnyS (wpAny_pyIter_list hl ?_)
  refine⟨s.heap.objs.size,_,_,_,_,_,_,numAt xs,rfl,W,⟨⟨_,Heap.get?_push_size _ rfl,rfl,rfl⟩,hl.at fun o e=>Heap.get?_push_of_some _ e⟩,fun b hb=>?_,fun i v hP=>intItems_at hP,fun s' t' hm=>?_⟩
  ·rcases List.mem_cons.mp hb with rfl | hb
   ·exact Heap.lt_size (Heap.get?_push_size _ rfl)
   ·obtain rfl:=List.mem_singleton.mp hb
    exact Heap.lt_size (Heap.get?_push_of_some _ ho)
  ·obtain⟨h',g',d',tk',os'⟩:=s'
   have e1:g'=s.gens:=hm.gens
   have e2:d'=s.drawn:=hm.drawn
   have e3:os'=s.os:=hm.os
   subst e1 e2 e3
   refine⟨.int ns.sum,H,I.kept (h':=h') (t':=tk') fun b o e=>hm.heap b o (fun hb=>absurd (Heap.lt_size e) ((List.mem_singleton.mp hb) ▸ Nat.lt_irrefl _)) (Heap.get?_push_of_some _ e),⟨t',?_⟩,q⟩
   rw[←hs]
 ·obtain⟨its,rv,p,hz⟩:=I.tuple (SqT.of (K:=X.K) hH)
  obtain⟨xs,hx,hs⟩:=fin its (intsAre_of rv)
  rw[hx] at p
  exact PySem.W.ktm_sumG hh (show s.heap.IsTuple l _ from p) fun h' tk t' hk=>⟨.int ns.sum,H,I.kept hk,⟨t',by rw[←hs]⟩,q⟩
def uN:List D->Mo->Option D
 |[d],M=>(fM d M).bind fun l=>(intsOf l).map fun ns=>.int ns.sum
 |_,_=>none
theorem lF(hh:X.A.handled=none):CallD X E (.builtin "sum") (fun l=>rd (uN l)):=CallD.of (u5 hh) fun vs H Q ρ M ds d j c e q=>by
 unfold uN at e
 split at e
 ·obtain⟨l,h1,e1⟩:=Option.bind_eq_some_iff.mp e
  obtain⟨ns,h2,rfl⟩:=Option.map_eq_some_iff.mp e1
  obtain⟨v,rfl,k⟩:=c.one
  replace c:=k
  obtain⟨a,xs,rfl,ha,c⟩:=rJ j c h1
  have:=ints_of c h2
  subst this
  exact⟨_,ns,rfl,ha,q ρ H _ .refl j (.int _)⟩
 ·cases e
def xP:D->Option Bool
 |.bl b=>some b
 |.int i=>some (i != 0)
 |_=>none
def eO:List D->Option (List Bool)
 |[]=>some []
 |d::l=>match xP d,eO l with
   |some b,some bs=>some (b::bs)
   |_,_=>none
theorem tX:∀ {xs:List V}{l:List D}{bs:List Bool},Cvs mg ρ H xs l->eO l=some bs->(∀ x∈xs,scS x=true)∧xs.map j9=bs
 |_,_,_,.nil,e=>by cases e;exact⟨(fun x hx=>nomatch hx),rfl⟩
 | _,_,_,.cons (d:=d) (ds:=ds) (vs:=vs) c cs,e=>by
   unfold eO at e
   split at e
   ·rename_i b bs h1 h2
    cases e
    obtain⟨a1,a2⟩:=tX cs h2
    cases c with
    |bl b'=>cases h1;exact⟨fun x hx=>by rcases List.mem_cons.mp hx with rfl | hx;rfl;exact a1 x hx,by rw[List.map_cons,a2];rfl⟩
    |int b'=>cases h1;exact⟨fun x hx=>by rcases List.mem_cons.mp hx with rfl | hx;rfl;exact a1 x hx,by rw[List.map_cons,a2];rfl⟩
    |_=>cases h1
   ·cases e
def gR:List D->Mo->Option D
 |[d],M=>(aV d M).bind fun l=>(eO l).map fun bs=>.bl (bs.all id)
 |_,_=>none
def zM:List D->Mo->Option D
 |[.tup l],_=>(eO l).map fun bs=>.bl (bs.any id)
 |_,_=>none
theorem dC(hh:X.A.handled=none):CallD X E (.builtin "all") (fun l=>rd (gR l)):=CallD.of (wJ hh) fun vs H Q ρ M ds d j c e q=>by
 unfold gR at e
 split at e
 ·obtain⟨l,h1,e1⟩:=Option.bind_eq_some_iff.mp e
  obtain⟨ns,h2,rfl⟩:=Option.map_eq_some_iff.mp e1
  obtain⟨v,rfl,k⟩:=c.one
  replace c:=k
  obtain⟨a,xs,rfl,ha,c⟩:=cZ j c h1
  obtain⟨t1,t2⟩:=tX c h2
  subst t2
  exact⟨_,xs,rfl,ha,t1,by have z:=q ρ H _ .refl j (.bl _);rw[List.all_map] at z;exact z⟩
 ·cases e
def o6:List D->Mo->Option D
 |[d],M=>(fM d M).map .tup
 |_,_=>none
theorem dN:CallD X E (.type "tuple") (fun l=>rd (o6 l)):=CallD.of call_tuple_of fun vs H Q ρ M ds d j c e q=>by
 unfold o6 at e
 split at e
 ·obtain⟨l,h1,rfl⟩:=Option.map_eq_some_iff.mp e
  obtain⟨v,rfl,k⟩:=c.one
  replace c:=k
  unfold fM at h1
  split at h1
  ·cases h1
   cases c with | tup n a c=>
   exact⟨_,_,rfl,.inr ⟨SqT.of a,q ρ H _ .refl j (.tup n a c)⟩⟩
  ·obtain⟨a,xs,rfl,ha,c⟩:=cZ j c h1
   exact⟨_,_,rfl,.inl ⟨SqL.of ha,fun p hp=>q ρ _ _ (.lay hp) (j.lay _ hp) (.tup (j.fresh hp) upd_same (c.mono (.lay hp)))⟩⟩
 ·cases e
def uv:List D->Mo->Option (List D)
 |[d],M=>fM d M
 |_,_=>none
theorem uf:CallD X E (.type "list") (fun l=>rd (fun M=>(uv l M).map .lst)):=CallD.of call_list_of fun vs H Q ρ M ds d j c e q=>by
 obtain⟨l,e1,rfl⟩:=Option.map_eq_some_iff.mp e
 unfold uv at e1
 split at e1
 ·obtain⟨v,rfl,k⟩:=c.one
  replace c:=k
  obtain⟨a,xs,rfl,ha,c⟩:=rJ j c e1
  exact⟨_,_,rfl,ha.imp SqL.of SqT.of,fun p hp=>q ρ _ _ (.lay hp) (j.lay _ hp) (.lst (j.fresh hp) upd_same (c.mono (.lay hp)))⟩
 ·cases e1
def uB(d:D):Option PyData:=match toPy d with
 |some p=>some p
 |none=>bN d
def qj:List D->Mo->Option D
 |[d],_=>(uB d).bind fun p=>if p.showable&&decide (p.depth≤60)&&decide (cH p≤sizeLine) then some (.str p.shown) else none
 |_,_=>none
theorem gG (hg:X.A.guards=some []) (hu:X.A.units + 64<cLine):CallD X E (.builtin "repr") (fun l=>rd (qj l)):=CallD.of (uh hg hu) fun vs H Q ρ M ds d j c e q=>by
 unfold qj at e
 split at e
 ·obtain ⟨p,h1,e1⟩:=Option.bind_eq_some_iff.mp e
  split at e1
  ·rename_i hk
   cases e1
   simp only[Bool.and_eq_true,decide_eq_true_eq] at hk
   obtain⟨v,rfl,k⟩:=c.one
   replace c:=k
   have key:∃f,RepF H f v p:=by
    unfold uB at h1
    split at h1
    ·rename_i h2
     cases h1;exact⟨true,c.repF h2⟩
    ·exact⟨false,c.repD h1⟩
   obtain⟨f,rp⟩:=key
   exact⟨f,_,p,rfl,rp,hk.1.1,hk.1.2,hk.2,q ρ H _ .refl j (.str _)⟩
  ·cases e1
 ·cases e
def tyOf:D->Mo->Option String
 |.non,_=>some "NoneType"
 |.bl _,_=>some "bool"
 |.int _,_=>some "int"
 |.str _,_=>some "str"
 |.tup _,_=>some "tuple"
 |.lst _,_=>some "list"
 |.scr _,_=>some "list"
 |.dic _ _,_=>some "dict"
 |.ref n,M=>match M[n]? with
   |some (.lst _)=>some "list"
   |some (.dic _ _)=>some "dict"
   |_=>none
 |_,_=>none
theorem CZ {K:PySem.W.Frag} (j:J mg ρ M H) {x:V}{d:D}{t:String} (c:Cv mg ρ H x d) (e:tyOf d M=some t):TyOf K H x (.type t):=by
 cases c with
 |non=>cases e;exact .non
 |bl b=>cases e;exact .bl b
 |int b=>cases e;exact .int b
 |str b=>cases e;exact .str b
 |tup n h c=>cases e;exact .tup h
 |lst n h c=>cases e;exact .lst h
 |dic n h l c=>cases e;exact .dK h
 |scr n h=>
   cases e
   rcases h with h | ⟨o,h⟩
   ·exact .lst h
   ·exact .frz h
 | ref q=>
   unfold tyOf at e
   dsimp only at e
   split at e
   ·rename_i l hl
    cases e
    obtain⟨xs,h,_⟩:=j.obj _ _ _ q hl
    exact .lst h
   ·rename_i ks l hl
    cases e
    obtain⟨xs,h,_⟩:=j.obj _ _ _ q hl
    exact .dK h
   ·cases e
 |_=>cases e
def uM(t c:String):Bool:=t==c || (t=="bool"&&c=="int")
def tys:List String:=["NoneType", "bool", "int", "str", "tuple", "list", "dict"]
def fY:List D->Mo->Option D
 |[d,.ty c],M=>(tyOf d M).bind fun t=>if tys.contains c then some (.bl (uM t c)) else none
 |_,_=>none
theorem xQ{d:D}{t:String}(e:tyOf d M=some t):t∈tys:=by
 unfold tyOf at e
 split at e<;>first | (cases e;decide) | (split at e<;>first | (cases e;decide) | cases e) | cases e
theorem Al{K:PySem.W.Frag}:∀t∈tys,∀c∈tys,PySem.W.kitOne K (.type t) (.type c)=some (uM t c):=by
 intro t ht c hc
 simp only[tys,List.mem_cons,List.mem_nil_iff,or_false] at ht hc
 rcases ht with rfl | rfl | rfl | rfl | rfl | rfl | rfl<;>rcases hc with rfl | rfl | rfl | rfl | rfl | rfl | rfl<;>rfl
theorem bA:CallD X E (.builtin "isinstance") (fun l=>rd (fY l)):=CallD.of wK fun vs H Q ρ M ds d j c e q=>by
 unfold fY at e
 split at e
 ·obtain⟨t,h1,e1⟩:=Option.bind_eq_some_iff.mp e
  split at e1
  ·rename_i hk
   cases e1
   obtain⟨v,w,rfl,k,c2⟩:=c.two
   replace c:=k
   cases c2
   exact⟨_,_,_,_,rfl,CZ j c h1,Al _ (xQ h1) _ (List.contains_iff_mem.mp hk),q ρ H _ .refl j (.bl _)⟩
  ·cases e1
 ·cases e
def Dg(X:Cx)(E:XK)(id:String)(g:D->List D->DM D):Prop:=MtR X id (fun x vs H Q=>∃ρ M d ds,J X.mg ρ M H∧Cv X.mg ρ H x d∧Cvs X.mg ρ H vs ds∧Go X.mg E (Cv X.mg) Q ρ H (g d ds) M)
def wI:D->List D->DM D
 |.ref n,[v]=>fun M=>match M[n]? with
   |some (.lst l)=>if l.length<sizeLine then some (.ok .non,M.set n (.lst (l++[v]))) else none
   |_=>none
 |_,_=>stuck
theorem mJ:Dg X E "list.append" wI:=by
 intro pins s σ H x xs v us Q I rx rs q
 obtain⟨ρ,M,d,ds,j,cx,cs,r,e,p⟩:=q
 cases cx with
 | ref hn=>
   cases cs with
   |nil=>cases e
   | cons c cs=>cases cs with
     |cons _ _=>cases e
     | nil=>
       rename_i n a w dw
       have e:(match M[n]? with
        |some (.lst l)=>if l.length<sizeLine then some (R.ok .non,M.set n (.lst (l++[dw]))) else none
        |_=>none)=some r:=e
       split at e
       ·rename_i l hl
        split at e
        ·cases e
         obtain⟨xs,hx,cl⟩:=j.obj _ _ _ hn hl
         have x:Ext ρ H ρ (upd H a (.lst (xs++[w]))):=.upd (List.mem_of_getElem? hn)
         exact mt_append (X:=X) pins s σ H _ _ v us Q I rx rs ⟨_,_,_,rfl,rfl,hx,by rw[cl.len];assumption,p ρ _ .non x (j.upd hn ⟨_,upd_same,(cl.append (.cons c .nil)).mono x⟩) .non⟩
        ·cases e
       ·cases e
 |_=>cases e
theorem qd {name id:String}{g:D->List D->DM D}{o e:Expr}{es:List Expr}{fo:aa->DM D}{fs:aa->DM (List D)}{apos cpos:Pos} (pa:PlainAttrs "list") (slot:Slot "list" name id) (hty:typeOf (.builtin id)=pure (.type "method_descriptor")) (hm:Dg X E id g) (ho:DE X E o fo) (ha:DA X E (e::es) fs)
  (hbase:attributeBase o name X.env (eval o X.env)=eval o X.env:=by rfl)
  (hfew:((backTo cpos (starEach (e::es) X.env)).all (fun x=>!x.1)&&(backToKw cpos (keywordEach [] X.env)).all (fun x=>x.1.isSome)
   &&decide ((e::es).length+([]:List Keyword).length+(if ([]:List Keyword).isEmpty then 0 else 1)<30))=true:=by rfl)
  (hline:(apos.endLine==cpos.line)=true:=by rfl) (hs:notStar e=true:=by rfl) (hplain:(backTo cpos (starEach es X.env)).any (·.1)=false:=by rfl) :
  DE X E (.Call (.Attribute o name apos) (e::es) [] cpos) (fun δ=>fo δ>>=fun x=>rd (fun M=>aV x M)>>=fun _=>fs δ>>=fun xs=>g x xs):=⟨PE.mono (Bf pa slot hty hm ho.h ha.h hbase hfew hline hs hplain) fun σ H Q h=>by
 obtain⟨ρ,δ,M,ev,j,g1⟩:=h
 refine⟨ρ,δ,M,ev,j,g1.bind fun ρ1 H1 M1 x dx e1 j1 c1 g2=>?_⟩
 obtain⟨l,hl,g3⟩:=Go.rdb g2
 obtain⟨a,xs,rfl,hx,cl⟩:=cZ j1 c1 hl
 exact⟨.inl ⟨rfl,_,SqL.of hx⟩,ρ1,δ,M1,ev.mono e1,j1,g3.bind fun ρ2 H2 M2 ys dys e2 j2 c2 g4=>⟨ρ2,M2,dx,dys,j2,c1.mono e2,c2,g4⟩⟩⟩
end
structure ExtB(acc:Addr)(ρ:Rh)(H:Hp)(ρ':Rh)(H':Hp):Prop where
 pre:∃τ,ρ'.st=ρ.st++τ
 vo:ρ'.vo=ρ.vo
 new:∀a,a∈ρ'.st->a∉ρ.st->H a=none
 keep:∀a o,H a=some o->a∉ρ.st->a≠acc->H' a=some o
 na:acc∉ρ'.st
section
variable{acc:Addr}{ρ ρ1 ρ2:Rh}{H H1 H2:Hp}
theorem ExtB.trans (e:ExtB acc ρ H ρ1 H1) (f:ExtB acc ρ1 H1 ρ2 H2):ExtB acc ρ H ρ2 H2:=by
 have out:∀a o,H a=some o->a∉ρ.st->a∉ρ1.st:=fun a o h n z=>by have:=e.new a z n;rw[h] at this;cases this
 refine⟨?_,f.vo.trans e.vo,fun a h n=>?_,fun a o h n na=>f.keep a o (e.keep a o h n na) (out a o h n) na,f.na⟩
 ·obtain⟨τ,h1⟩:=e.pre
  obtain⟨υ,h2⟩:=f.pre
  exact⟨τ++υ,by rw[h2,h1,List.append_assoc]⟩
 ·by_cases z:a∈ρ1.st
  ·exact e.new a z n
  ·cases q:H a with
   |none=>rfl
   |some o=>
     have:=f.new a h z
     rw[e.keep a o q n (fun y=>f.na (y ▸ h))] at this;cases this
theorem Ext.b(e:Ext ρ H ρ1 H1)(na:acc∉ρ1.st):ExtB acc ρ H ρ1 H1:=⟨e.pre,e.vo,e.new,fun a o h n _=>e.keep a o h n,na⟩
theorem ExtB.kp(e:ExtB acc ρ H ρ1 H1)(h:acc∈ρ.vo):Kp ρ H ρ1 H1:=⟨e.pre,fun a o q n=>by
 have ne:a≠acc:=fun z=>n (z ▸ .inr h)
 have ns:a∉ρ.st:=fun z=>n (.inl z)
 refine⟨fun z=>?_,e.keep a o q ns ne⟩
 rcases z with z | z
 ·have:=e.new a z ns
  rw[q] at this;cases this
 ·rw[e.vo] at z;exact n (.inr z)⟩
theorem ExtB.refl(na:acc∉ρ.st):ExtB acc ρ H ρ H:=(Ext.refl).b na
theorem ExtB.grow{ys:List V}(na:acc∉ρ.st):ExtB acc ρ H ρ (upd H acc (.lst ys)):=⟨⟨[],by simp⟩,rfl,fun a h n=>absurd h n,fun a o h _ ne=>by rw[upd_ne ne];exact h,na⟩
end
structure Cst(X:Cx)(pins:List (Addr×Obj))(acc:Addr)(ρ0:Rh)(H0:Hp)(δ:aa)(l:List D)(M:Mo)(fp:List Addr)(s:Shared):Prop where
 ex:∃σ H ρ ys,Inv X pins σ H s∧ExtB acc ρ0 H0 ρ H∧J X.mg ρ M H∧Ev X.mg ρ H σ δ∧H acc=some (.lst ys)∧Cvs X.mg ρ H ys l∧∀b∈fp,H b=none
def bx(fg:D->aa->DM aa)(ft:aa->DM Bool)(fb:aa->List D->DM (aa×List D)):List D->aa->List D->DM (aa×List D)
 |[],δ,l=>pure (δ,l)
 |d::ds,δ,l=>fg d δ>>=fun δ1=>ft δ1>>=fun b=>(if b then fb δ1 l else pure (δ1,l))>>=fun p=>bx fg ft fb ds p.1 p.2
def jN (fg:D->aa->DM aa) (ft:aa->DM Bool) (fb:aa->List D->DM (aa×List D)) (n:Nat):Nat->Nat->aa->List D->DM (aa×List D)
 |0,_,_,_=>stuck
 |k+1,i,δ,l=>rd (Itn.next (.dyn n) i)>>=fun o=>match o with
   |none=>pure (δ,l)
   |some d=>fg d δ>>=fun δ1=>ft δ1>>=fun b=>(if b then fb δ1 l else pure (δ1,l))>>=fun p=>jN fg ft fb n k (i+1) p.1 p.2
def cM(fg:D->aa->DM aa)(ft:aa->DM Bool)(fb:aa->List D->DM (aa×List D)):Itn->aa->List D->DM (aa×List D)
 |.fix ds,δ,l=>bx fg ft fb ds δ l
 |.dyn n,δ,l=>rd (fun M=>aV (.ref n) M)>>=fun m=>jN fg ft fb n (m.length+1) 0 δ l
def bu(fe:aa->DM D)(δ:aa)(l:List D):DM (aa×List D):=fe δ>>=fun d=>if l.length<sizeLine then pure (δ,l++[d]) else stuck
def Et(X:Cx)(ifs:List Expr)(t:TT):Prop:=∀(pins:List (Addr×Obj)) (s:Shared) (σ:L2.St) (H:Hp) (Q:Bool->Hp->Prop),Inv X pins σ H s->t σ H Q->wpAny (model X.prog X.w) X.A (pJ ifs X.env) (TP X pins σ Q) X.xe s
structure DTs(X:Cx)(E:XK)(ifs:List Expr)(f:aa->DM Bool):Prop where
 h:Et X ifs (tD X.mg E Bv f)
theorem jx{X:Cx}{E:XK}:DTs X E [] (fun _=>pure true):=⟨fun pins s σ H Q I h=>by
 obtain⟨ρ,δ,M,ev,j,g⟩:=h
 exact wpAny_pure ⟨H,I,g.pure ρ H true .refl j rfl⟩⟩
theorem cJ{X:Cx}{E:XK}{c:Expr}{f:aa->DM Bool}(hc:DT X E c f):DTs X E [c] f:=⟨fun pins s σ H Q I h=>wpAny_tests_one (hc.h pins s σ H Q I h)⟩
theorem DM.bind_ok{α β:Type}{m:DM α}{k:α->DM β}{M M':Mo}{b:β}(h:(m>>=k) M=some (.ok b,M')):∃a M1,m M=some (.ok a,M1)∧k a M1=some (.ok b,M'):=by
 have h:DM.bind m k M=some (.ok b,M'):=h
 unfold DM.bind at h
 split at h
 ·cases h
 ·cases h
 ·rename_i a M1 e
  exact⟨a,M1,e,h⟩
def BodyOk(X:Cx)(acc:Addr)(W:(Shared->Prop)->Shared->Prop)(fb:aa->List D->DM (aa×List D)):Prop:=
 ∀pins ρ0 H0 δ l M s δ' l' M',acc∈ρ0.vo->Cst X pins acc ρ0 H0 δ l M [] s->fb δ l M=some (.ok (δ',l'),M')->W (fun s'=>Cst X pins acc ρ0 H0 δ' l' M' [] s') s
theorem Cst.unpin{X:Cx}{pins pl:List (Addr×Obj)}{acc:Addr}{ρ0:Rh}{H0:Hp}{δ:aa}{l:List D}{M:Mo}{s:Shared}{fp:List Addr}(c:Cst X (pins++pl) acc ρ0 H0 δ l M [] s)(h:∀b∈fp,∃o,(b,o)∈pl) :
  Cst X pins acc ρ0 H0 δ l M fp s∧∀p∈pl,s.heap.get? p.1=some p.2:=by
 obtain⟨σ,H,ρ,ys,I,x,j,ev,ha,cl,_⟩:=c.ex
 refine⟨⟨σ,H,ρ,ys,I.unpinned,x,j,ev,ha,cl,fun b hb=>?_⟩,fun p hp=>(I.pin p (List.mem_append_right _ (List.mem_append_right _ hp))).1⟩
 obtain⟨o,ho⟩:=h b hb
 exact (I.pin (b,o) (List.mem_append_right _ (List.mem_append_right _ ho))).2.1
def pP(fg:D->aa->DM aa)(ft:aa->DM Bool)(fb:aa->List D->DM (aa×List D))(δf:aa)(lf:List D)(Mf:Mo):Itn->Nat->Nat->aa->List D->Mo->Prop
 |.fix ds,n,i,δ,l,M=>n=ds.length-i∧bx fg ft fb (ds.drop i) δ l M=some (.ok (δf,lf),Mf)
 |.dyn a,n,i,δ,l,M=>jN fg ft fb a n i δ l M=some (.ok (δf,lf),Mf)
theorem pP.step {fg:D->aa->DM aa}{ft:aa->DM Bool}{fb:aa->List D->DM (aa×List D)}{δf δ:aa}{lf l:List D}{Mf M:Mo}{it:Itn}{n i:Nat} (h:pP fg ft fb δf lf Mf it n i δ l M) :
  (it.next i M=some none∧δ=δf∧l=lf∧M=Mf)∨∃d δ1 M1 b M2 δ3 l3 M3 m,it.next i M=some (some d)∧fg d δ M=some (.ok δ1,M1)∧ft δ1 M1=some (.ok b,M2)∧(if b then fb δ1 l else pure (δ1,l)) M2=some (.ok (δ3,l3),M3)∧m<n∧pP fg ft fb δf lf Mf it m (i+1) δ3 l3 M3:=by
 cases it with
 | fix ds=>
   obtain⟨rfl,h⟩:=h
   cases hd:ds[i]? with
   |none=>
     rw[List.drop_eq_nil_of_le (List.getElem?_eq_none_iff.mp hd)] at h
     cases h
     exact .inl ⟨congrArg some hd,rfl,rfl,rfl⟩
   |some d=>
     obtain⟨hi',hd'⟩:=List.getElem?_eq_some_iff.mp hd
     have hl:ds.drop i=d::ds.drop (i+1):=by rw[←hd'];exact List.drop_eq_getElem_cons hi'
     rw[hl] at h
     obtain⟨δ1,M1,e1,h1⟩:=DM.bind_ok h
     obtain⟨b,M2,e2,h2⟩:=DM.bind_ok h1
     obtain⟨⟨δ3,l3⟩,M3,e3,h3⟩:=DM.bind_ok h2
     exact .inr ⟨d,δ1,M1,b,M2,δ3,l3,M3,ds.length-(i+1),congrArg some hd,e1,e2,e3,by omega,rfl,h3⟩
 | dyn a=>
   cases n with
   |zero=>cases h
   | succ n=>
     obtain⟨o,M0,e0,h⟩:=DM.bind_ok h
     obtain⟨o',q,z⟩:=Option.map_eq_some_iff.mp e0
     cases z
     cases o with
     |none=>cases h;exact .inl ⟨q,rfl,rfl,rfl⟩
     |some d=>
       obtain⟨δ1,M1,e1,h1⟩:=DM.bind_ok h
       obtain⟨b,M2,e2,h2⟩:=DM.bind_ok h1
       obtain⟨⟨δ3,l3⟩,M3,e3,h3⟩:=DM.bind_ok h2
       exact .inr ⟨d,δ1,M1,b,M2,δ3,l3,M3,n,q,e1,e2,e3,Nat.lt_succ_self _,h3⟩
theorem pP.start {fg:D->aa->DM aa}{ft:aa->DM Bool}{fb:aa->List D->DM (aa×List D)}{δf δ:aa}{lf l:List D}{Mf M:Mo}{it:Itn} (h:cM fg ft fb it δ l M=some (.ok (δf,lf),Mf)):∃ n,pP fg ft fb δf lf Mf it n 0 δ l M:=by
 cases it with
 |fix ds=>exact⟨_,rfl,h⟩
 |dyn a=>
   obtain⟨m,M0,e0,h⟩:=DM.bind_ok h
   obtain⟨m',q,z⟩:=Option.map_eq_some_iff.mp e0
   cases z
   exact⟨_,h⟩
theorem vL {X:Cx} (hc:X.calm=true) (hxe:X.xe=fun _ _=>False) {elt:Expr}{gens:List Comprehension}{scope:Scope}{pos:Pos}{depth:Nat}{g:Comprehension}{bodyK:Sem Fin->Sem Fin}{W:(Shared->Prop)->Shared->Prop}{it acc:Addr}
  (hturn:compTurn (.ListComp elt gens scope pos) depth (.ref it) (.ref acc) X.env=turnOf g bodyK (.compLoop (.ListComp elt gens scope pos) depth (.ref it) (.ref acc) X.env) (.ref it) X.env) (hW:nZ X.prog X.w X.A bodyK W) (hmono:∀P P' s,(∀s,P s->P' s)->W P s->W P' s)
  {fg:D->aa->DM aa}{ft:aa->DM Bool}{fb:aa->List D->DM (aa×List D)} (hg:DG X E0 g.target fg) (ht:DTs X E0 g.ifs ft) (hb:BodyOk X acc W fb)
  {Jt:It}{fp:List Addr}{tn:Nat->Heap->Prop} (T:Turn X.prog X.w X.K g.target Jt fp it tn) {itn:Itn}{ρi ρ0:Rh}{Hi H0:Hp} (iok:ItOk X.mg ρi Hi Jt itn) (hacc:acc∈ρ0.vo) (kp0:Kp ρi Hi ρ0 H0) {pins:List (Addr×Obj)}
  (fok:∀H',(∀b∈fp,H' b=none)->∀b∈fp,FpOk X pins H' b) {δ:aa}{l:List D}{M:Mo}{s:Shared} (st:Cst X pins acc ρ0 H0 δ l M fp s) (htn:tn 0 s.heap) {δf:aa}{lf:List D}{Mf:Mo} (hrun:cM fg ft fb itn δ l M=some (.ok (δf,lf),Mf))
  {R:Result->Shared->Prop} (hR:∀s',Cst X pins acc ρ0 H0 δf lf Mf fp s'->R (.ok .next) s') :
  codeAny (model X.prog X.w) X.A (.compLoop (.ListComp elt gens scope pos) depth (.ref it) (.ref acc) X.env) R s:=by
 obtain⟨n0,rem0⟩:=pP.start hrun
 refine xf (fun n s=>∃i δ l M,pP fg ft fb δf lf Mf itn n i δ l M∧Cst X pins acc ρ0 H0 δ l M fp s∧tn i s.heap) hturn hW ?_ hmono n0 ⟨0,δ,l,M,rem0,st,htn⟩
 rintro n s ⟨i,δ,l,M,rem,st,htn⟩
 obtain⟨σ,H,ρ,ys,I,x,j,ev,ha,cl,fr⟩:=st.ex
 have kp:Kp ρi Hi ρ H:=kp0.trans (x.kp hacc)
 rcases rem.step with ⟨hd,rfl,rfl,rfl⟩ | ⟨d,δ1,M1,b,M2,δ3,l3,M3,m,hd,e1,e2,e3,hm,rem3⟩
 ·refine wpAny_mono (T.done X rfl rfl rfl hc i pins s σ H _ I (fok H fr) htn (iok.stop i ρ H _ kp j hd)) (fun r s1 h1=>?_) fun _ _ z=>z
  obtain⟨rfl,I1⟩:=h1
  exact hR s1 ⟨σ,H,ρ,ys,I1,x,j,ev,ha,cl,fr⟩
 ·obtain ⟨go,yl⟩:=iok.item i ρ H M d kp j hd
  refine wpAny_mono (T.item X rfl rfl rfl hc i pins s σ H (fun _ _=>False) I (fok H fr) htn go) (fun r s1 h1=>?_) fun _ _ z=>z
  obtain⟨u,rfl,h1⟩:=h1
  refine wpAny_mono h1 (fun _ s2 h2=>?_) fun _ _ z=>z
  obtain⟨xv,H5,I5,r5,y5,tn5,fr5⟩:=h2
  obtain⟨x5,j5,c5⟩:=yl xv H5 y5
  have I5':=I5.pinned (fok H5 fr5) (T.obj _ _ tn5)
  refine wpAny_mono (hg.h _ s2 σ H5 xv u (fun σ6 H6=>∃ρ6,Ext ρ H5 ρ6 H6∧J X.mg ρ6 M1 H6∧Ev X.mg ρ6 H6 σ6 δ1) I5' r5 ⟨ρ,δ,M,d,ev.mono x5,j5,c5,_,e1,fun ρ6 H6 σ6 a1 a2 a3=>⟨ρ6,a1,a2,a3⟩⟩) (fun _ s3 h3=>?_) fun _ _ z=>by rw[hxe] at z;exact z
  obtain⟨σ6,H6,I6,ρ6,x6,j6,ev6⟩:=h3
  refine wpAny_mono (ht.h _ s3 σ6 H6 (fun b' H7=>b'=b∧∃ρ7,Ext ρ6 H6 ρ7 H7∧J X.mg ρ7 M2 H7) I6 ⟨ρ6,δ1,M1,ev6,j6,_,e2,fun ρ7 H7 b' a1 a2 a3=>⟨a3,ρ7,a1,a2⟩⟩) (fun ok s4 h4=>?_) fun _ _ z=>by rw[hxe] at z;exact z
  obtain⟨H7,I7,rfl,ρ7,x7,j7⟩:=h4
  have nacc:acc∉ρ.st:=x.na
  have na6:acc∉ρ6.st:=fun z=>by
   have h5:=x5.keep acc _ ha nacc
   have:=x6.new acc z nacc
   rw[h5] at this;cases this
  have ha5:=x5.keep acc _ ha nacc
  have ha6:=x6.keep acc _ ha5 nacc
  have na7:acc∉ρ7.st:=fun z=>by
   have:=x7.new acc z na6
   rw[ha6] at this;cases this
  have ha7:=x7.keep acc _ ha6 na6
  have xb:ExtB acc ρ0 H0 ρ7 H7:=((x.trans (x5.b nacc)).trans (x6.b na6)).trans (x7.b na7)
  have ct:Cst X (pins++pinsAt fp s2.heap) acc ρ0 H0 δ1 l M2 [] s4:=⟨σ6,H7,ρ7,ys,I7,xb,j7,ev6.mono x7,ha7,((cl.mono x5).mono x6).mono x7,fun b hb=>nomatch hb⟩
  have fin:∀s5,Cst X (pins++pinsAt fp s2.heap) acc ρ0 H0 δ3 l3 M3 [] s5->∃m,m<n∧∃i δ l M,pP fg ft fb δf lf Mf itn m i δ l M∧Cst X pins acc ρ0 H0 δ l M fp s5∧tn i s5.heap:=fun s5 c5=>by
   obtain⟨c6,pp⟩:=c5.unpin (fp:=fp) fun b hb=>by
    obtain⟨o,eo,_⟩:=T.obj _ _ tn5 b hb
    exact⟨o,mem_pinsAt hb eo⟩
   exact⟨m,hm,i+1,δ3,l3,M3,rem3,c6,T.keep _ _ _ tn5 fun b hb o eo=>pp (b,o) (mem_pinsAt hb eo)⟩
  cases ok with
  |true=>exact iteT (hmono _ _ _ fin (hb _ ρ0 H0 δ1 l M2 s4 δ3 l3 M3 hacc ct e3))
  |false=>
    cases e3
    exact iteF (fin s4 ct)
theorem sE{X:Cx}(hxe:X.xe=fun _ _=>False){elt:Expr}{fe:aa->DM D}{acc:Addr}(he:DE X E0 elt fe) :
  BodyOk X acc (fun P s=>wpAny (model X.prog X.w) X.A (eval elt X.env) (fun x s1=>wpAny (model X.prog X.w) X.A (call (.builtin "list.append") [.ref acc,x]) (fun _ s2=>P s2) (fun _ _=>False) s1) (fun _ _=>False) s) (bu fe):=by
 intro pins ρ0 H0 δ l M s δ' l' M' hacc ct e
 obtain⟨d,M1,e1,e2⟩:=DM.bind_ok e
 obtain⟨σ,H,ρ,ys,I,x,j,ev,ha,cl,_⟩:=ct.ex
 split at e2
 rotate_left
 ·cases e2
 rename_i hz
 cases e2
 refine wpAny_mono (he.h pins s σ H (fun v H1=>∃ρ1,Ext ρ H ρ1 H1∧J X.mg ρ1 M' H1∧Cv X.mg ρ1 H1 v d) I ⟨ρ,δ,M,ev,j,_,e1,fun ρ1 H1 v a1 a2 a3=>⟨ρ1,a1,a2,a3⟩⟩) (fun u s1 h1=>?_) fun _ _ z=>by rw[hxe] at z;exact z
 obtain⟨v,H1,I1,rv,ρ1,x1,j1,c1⟩:=h1
 have nacc:acc∉ρ.st:=x.na
 have ha1:=x1.keep acc _ ha nacc
 have na1:acc∉ρ1.st:=fun z=>by
  have:=x1.new acc z nacc
  rw[ha] at this;cases this
 have hv1:acc∈ρ1.vo:=by rw[x1.vo,x.vo];exact hacc
 refine wpAny_mono (mt_append (X:=X) pins s1 σ H1 (.ref acc) [v] (.ref acc) [u] (fun _ H'=>H'=upd H1 acc (.lst (ys++[v]))) I1 rfl (.cons rv .nil) ⟨_,ys,v,rfl,rfl,ha1,by rw[cl.len];exact hz,rfl⟩) (fun _ s2 h2=>?_) fun _ _ z=>by rw[hxe] at z;exact z
 obtain⟨_,H2,I2,_,rfl⟩:=h2
 exact⟨σ,_,ρ1,ys++[v],I2,(x.trans (x1.b na1)).trans (.grow na1),j1.grow hv1,(ev.mono x1).kp ((ExtB.grow na1).kp hv1),upd_same,((cl.mono x1).append (.cons c1 .nil)).hold hv1,fun b hb=>nomatch hb⟩
def dj{α:Type}(m:DM α):DM α:=fun M=>match m M with
 |some (.ok a,M')=>some (.ok a,M')
 |_=>none
theorem oO{α:Type}{m:DM α}{M:Mo}{r:R α×Mo}(h:dj m M=some r):∃a M',m M=some (.ok a,M')∧r=(.ok a,M'):=by
 unfold dj at h
 split at h
 ·rename_i a M' e
  cases h
  exact⟨a,M',e,rfl⟩
 ·cases h
def bz(js:List Nat)(δ:aa):aa:=js.map fun j=>(δ[j]?).getD none
def aQ(k:Nat)(js:List Nat)(δ:aa):aa:=List.replicate k none++bz js δ
theorem sG {mg:Str->Option Value}{ρ:Rh}{H:Hp}{σ:L2.St}{δ:aa} (ev:Ev mg ρ H σ δ) (k:Nat) (js:List Nat):Ev mg ρ H (List.replicate k none++pick js σ) (aQ k js δ):=by
 unfold aQ pick bz
 refine⟨by simp,fun i d q=>?_⟩
 by_cases hi:i<k
 ·rw[List.getElem?_append_left (by rw[List.length_replicate];exact hi),List.getElem?_replicate] at q
  split at q<;>cases q
 ·rw [List.getElem?_append_right (by rw [List.length_replicate];omega),List.length_replicate,List.getElem?_map] at q ⊢
  cases hj:js[i-k]? with
  |none=>rw[hj] at q;cases q
  | some j=>
    rw[hj] at q
    have q:(δ[j]?).getD none=some d:=Option.some.inj q
    have q':δ[j]?=some (some d):=by
     cases z:δ[j]? with
     |none=>rw[z] at q;cases q
     |some o=>rw[z] at q;exact congrArg some q
    obtain⟨v,h1,h2⟩:=ev.val j d q'
    exact⟨v,by show some ((σ[j]?).getD none)=_;rw[h1];rfl,h2⟩
theorem jL{ρ:Rh}{H:Hp}{p:Addr}{o:HO}(hp:H p=none):Kp ρ H (ρ.hold p) (upd H p o):=⟨⟨[],by show ρ.st=_;simp⟩,fun a u h n=>⟨Rh.nhold n (ne_of_none h hp),by rw[upd_ne (ne_of_none h hp)];exact h⟩⟩
inductive Out where
 |val | sto
def Out.run:Out->List D->DM D
 |.val,l=>pure (.lst l)
 |.sto,l=>fun M=>some (.ok (.ref M.length),M++[.lst l])
theorem Out.fin {mg:Str->Option Value}{E:XK}{Q:VK}{ρ1 ρ4:Rh}{H2 H4:Hp}{acc:Addr}{M:Mo}{ys:List V}{l:List D} (o:Out) (hf:H2 acc=none) (hn:acc∉ρ1) (x:ExtB acc (ρ1.hold acc) (upd H2 acc (.lst [])) ρ4 H4) (j:J mg ρ4 M H4) (ha:H4 acc=some (.lst ys)) (c:Cvs mg ρ4 H4 ys l)
  (g:Go mg E (Cv mg) Q ρ1 H2 (o.run l) M):Q (.ref acc) H4:=by
 have hv:ρ4.vo=acc::ρ1.vo:=x.vo
 have na:acc∉ρ1.vo:=fun z=>hn (.inr z)
 have nw:∀a,a∈ρ4.st->a∉ρ1.st->H2 a=none:=fun a h n=>by
  have:=x.new a h n
  by_cases z:a=acc
  ·rw[z,upd_same] at this;cases this
  ·rw[upd_ne z] at this;exact this
 have kp:∀a o,H2 a=some o->a∉ρ1.st->H4 a=some o:=fun a o h n=>x.keep a o (by rw[upd_ne (ne_of_none h hf)];exact h) n (ne_of_none h hf)
 cases o with
 | val=>
   have e:Ext ρ1 H2 ⟨ρ4.st,ρ1.vo⟩ H4:=⟨x.pre,rfl,nw,kp⟩
   have jd:J mg ⟨ρ4.st,ρ1.vo⟩ M H4:=J.done (ρ:=ρ1) j hv
   have cd:Cvs mg ⟨ρ4.st,ρ1.vo⟩ H4 ys l:=Cvs.less (ρ:=ρ4) (ρ1:=⟨ρ4.st,ρ1.vo⟩) rfl (fun a h=>by rw[hv];exact .tail _ h) c
   exact Go.pure (a:=D.lst l) g ⟨ρ4.st,ρ1.vo⟩ H4 (.ref acc) e jd (.lst (fun z=>by
    rcases z with z | z
    ·exact x.na z
    ·exact na z) ha cd)
 | sto=>
   obtain⟨r,er,p⟩:=g
   cases er
   have k4:Kp ρ4 H4 ⟨ρ4.st++[acc],ρ1.vo⟩ H4:=⟨⟨[acc],rfl⟩,fun a o h n=>⟨fun z=>by
    rcases z with z | z
    ·rcases List.mem_append.mp z with z | z
     ·exact n (.inl z)
     ·exact n (.inr (by rw[hv,List.mem_singleton.mp z];exact .head _))
    ·exact n (.inr (by rw[hv];exact .tail _ z)),h⟩⟩
   have e:Ext ρ1 H2 ⟨ρ4.st++[acc],ρ1.vo⟩ H4:=by
    refine⟨?_,rfl,fun a h n=>?_,kp⟩
    ·obtain⟨τ,h1⟩:=x.pre
     exact⟨τ++[acc],by show ρ4.st++[acc]=_;rw[h1,List.append_assoc];rfl⟩
    ·rcases List.mem_append.mp h with z | z
     ·exact nw a z n
     ·rw[List.mem_singleton.mp z];exact hf
   have jd:J mg ⟨ρ4.st++[acc],ρ1.vo⟩ (M++[.lst l]) H4:=by
    refine⟨by show (ρ4.st++[acc]).length=_;rw[List.length_append,List.length_append,j.len];rfl,?_,fun n a w h1 h2=>?_,fun a h=>?_⟩
    ·show (ρ4.st++[acc]).Nodup
     rw[List.nodup_append]
     exact⟨j.nd,by simp,fun x' hx y hy e=>by rw[List.mem_singleton.mp hy] at e;exact x.na (e ▸ hx)⟩
    ·have h1:(ρ4.st++[acc])[n]?=some a:=h1
     by_cases hl:n<ρ4.st.length
     ·rw[List.getElem?_append_left hl] at h1
      rw[List.getElem?_append_left (by rw[←j.len];exact hl)] at h2
      exact (j.obj n a w h1 h2).map rfl fun vs ds c=>c.kp k4
     ·have hl':n<(ρ4.st++[acc]).length:=(List.getElem?_eq_some_iff.mp h1).1
      rw[List.length_append] at hl'
      have e:n=ρ4.st.length:=by have:[acc].length=1:=rfl;omega
      subst e
      rw[List.getElem?_append_right (Nat.le_refl _)] at h1
      rw[j.len,List.getElem?_append_right (Nat.le_refl _)] at h2
      simp at h1 h2
      subst h1 h2
      exact⟨ys,ha,c.kp k4⟩
    ·have h:a∈ρ1.vo:=h
     obtain⟨y1,y2⟩:=j.vol a (by rw[hv];exact .tail _ h)
     refine⟨fun z=>?_,y2⟩
     rcases List.mem_append.mp z with z | z
     ·exact y1 z
     ·exact na (List.mem_singleton.mp z ▸ h)
   refine p _ H4 (.ref acc) e jd (.ref ?_)
   show (ρ4.st++[acc])[_]?=_
   rw[←j.len];simp
theorem wN {X:Cx}{E:XK}{scope:Scope}{cl:List (Str×Addr)}{own:List Str}{js:List Nat}{fr:List Str}{elt t0 i0:Expr}{f0:List Expr}{gs:List Comprehension}{pos:Pos}{fi:aa->DM Itn}{fg:D->aa->DM aa}{ft:aa->DM Bool}{fb:aa->List D->DM (aa×List D)}
  {bodyK:Cx->Addr->Sem Fin->Sem Fin}{W:Cx->Addr->(Shared->Prop)->Shared->Prop} (o:Out) (hc:X.calm=true) (T:CompG X scope cl own js fr) (hi:DI X E t0 i0 fi)
  (hturn:∀(Y:Cx) it acc,compTurn (.ListComp elt (⟨t0,i0,f0,0⟩::gs) scope pos) 0 (.ref it) (.ref acc) Y.env=turnOf ⟨t0,i0,f0,0⟩ (bodyK Y acc) (.compLoop (.ListComp elt (⟨t0,i0,f0,0⟩::gs) scope pos) 0 (.ref it) (.ref acc) Y.env) (.ref it) Y.env)
  (hW:∀Y acc,nZ Y.prog Y.w Y.A (bodyK Y acc) (W Y acc)) (hmono:∀Y acc P P' s,(∀s,P s->P' s)->W Y acc P s->W Y acc P' s)
  (hg:∀pins m fp C s₂ H₂,DG (X.bc pins scope (cellsFrom m scope.names cl) (own++fr) fp C s₂ H₂) E0 t0 fg) (ht:∀pins m fp C s₂ H₂,DTs (X.bc pins scope (cellsFrom m scope.names cl) (own++fr) fp C s₂ H₂) E0 f0 ft)
  (hb:∀pins m fp C s₂ H₂ acc,BodyOk (X.bc pins scope (cellsFrom m scope.names cl) (own++fr) fp C s₂ H₂) acc (W (X.bc pins scope (cellsFrom m scope.names cl) (own++fr) fp C s₂ H₂) acc) fb)
  (hs:∀y,foldedSetIterable i0 X.env y=pure y:=by intro _;rfl) :
  DE X E (.ListComp elt (⟨t0,i0,f0,0⟩::gs) scope pos) (fun δ=>fi δ>>=fun it=>dj (cM fg ft fb it (aQ own.length js δ) [])>>=fun p=>o.run p.2):=⟨by
 intro pins s σ H Q I h
 obtain⟨ρ,δ,M,ev,j,g1⟩:=h
 rw[eval_ListComp]
 refine wpAny_comprehension_free (cl:=cl) (use:=none) rfl hs T.clos T.kind T.names ?_
 refine thn (hi.h pins s σ H (fun Jt H1=>∃ρ1 M1 it,Ext ρ H ρ1 H1∧J X.mg ρ1 M1 H1∧ItOk X.mg ρ1 H1 Jt it∧Go X.mg E (Cv X.mg) Q ρ1 H1 (dj (cM fg ft fb it (aQ own.length js δ) [])>>=fun p=>o.run p.2) M1) I
  ⟨ρ,δ,M,ev,j,g1.bind fun ρ1 H1 M1 Jt it e1 j1 iok g2=>⟨ρ1,M1,it,e1,j1,iok,g2⟩⟩) fun v s1 h1=>thn h1 fun itv s2 h2=>?_
 obtain⟨it,fp,tn,Jt,H2,rfl,I2,Tn,st2,f2,ρ1,M1,itn,x1,j1,iok,g2⟩:=h2
 have hrun:∃δf lf Mf,cM fg ft fb itn (aQ own.length js δ) [] M1=some (.ok (δf,lf),Mf)∧Go X.mg E (Cv X.mg) Q ρ1 H2 (o.run lf) Mf:=by
  obtain⟨r,e,p⟩:=g2
  have e:DM.bind _ _ M1=some r:=e
  unfold DM.bind at e
  split at e
  ·cases e
  ·rename_i c M' em
   obtain⟨a,M'',_,z⟩:=oO em
   cases z
  ·rename_i a M' em
   obtain⟨a',M'',e1,z⟩:=oO em
   cases z
   exact⟨a.1,a.2,M',e1,r,e,p⟩
 obtain⟨δf,lf,Mf,hrun,g3⟩:=hrun
 unfold newList
 refine wpAny_newObj_type (pY ?_)
 have hlt:∀b∈fp,b<s2.heap.objs.size:=fun b hb=>by
  obtain⟨o,e,_⟩:=Tn.obj _ _ st2 b hb
  exact Heap.lt_size e
 dsimp only
 generalize hP:s2.heap.push { cls:=.type "list",dict:=none,data:=.seq ([]:List Value).toArray }=hp1
 have hCs:hp1.objs.size=s2.heap.objs.size+1:=by rw[←hP,Heap.size_push]
 have hCe:hp1.objs.size+1=(hp1.push { cls:=.type "dict",data:=.dict #[] }).objs.size:=by rw[Heap.size_push]
 have hC:s2.heap.objs.size≤hp1.objs.size:=by omega
 have hne:hp1.objs.size≠s2.heap.objs.size:=by omega
 have old1:∀b o,s2.heap.get? b=some o->hp1.get? b=some o:=fun b o e=>by rw[←hP];exact Heap.get?_push_of_some _ e
 have old:∀b o,s2.heap.get? b=some o->(pushCells (hp1.push { cls:=.type "dict",data:=.dict #[] }) scope.names).get? b=some o:=fun b o e=>pushCells_keeps _ _ _ _ (Heap.get?_push_of_some _ (old1 b o e))
 have new:∃n,(pushCells (hp1.push { cls:=.type "dict",data:=.dict #[] }) scope.names).get? s2.heap.objs.size=some { cls:=.type "list",data:=.seq #[] n }:=⟨_,pushCells_keeps _ _ _ _ (Heap.get?_push_of_some _ (by rw[←hP];exact Heap.get?_push_size _ rfl))⟩
 have ns:(pushCells (hp1.push { cls:=.type "dict",data:=.dict #[] }) scope.names).Ns hp1.objs.size fun _=>none:=(Heap.Ns.new hp1 (.type "dict")).keeps (pushCells_keeps _ _)
 have hfree:H2 s2.heap.objs.size=none:=I2.hok.fresh (Nat.le_refl _)
 have IC:=pQ (t':=s2.toks) T I2 f2 hlt old (Nat.le_refl _) hC hne hCe (Nat.le_trans hC (Nat.le_succ _)) (Nat.lt_succ_self _) (Nat.lt_succ_of_le hC) rfl new ns
 have OK:=IC.ok
 have fok:∀H',(∀b∈fp,H' b=none)->∀b∈fp,FpOk (X.bc pins scope (cellsFrom (hp1.objs.size+1) scope.names cl) (own++fr) fp hp1.objs.size s2 H2) [] H' b:=fun H' hn b hb=>by
  obtain⟨_,g2,g3,g4,g5,g6⟩:=f2 b hb
  refine⟨hn b hb,Nat.ne_of_lt (Nat.lt_of_lt_of_le (hlt b hb) hC),fun hm=>?_,.inl hb,(OK.exf b hb).2,fun p hp=>g6 p (by simpa using hp)⟩
  rcases List.mem_cons.mp (I2.stkSub _ hm) with z | z
  ·exact g2 z
  ·exact g3 z
 have fp1:∀b∈fp,upd H2 s2.heap.objs.size (.lst []) b=none:=fun b hb=>by rw[upd_ne (Nat.ne_of_lt (hlt b hb))];exact (f2 b hb).1
 have jb:=j1.begin hfree
 have nf:=j1.fresh hfree
 have st:Cst (X.bc pins scope (cellsFrom (hp1.objs.size+1) scope.names cl) (own++fr) fp hp1.objs.size s2 H2) [] s2.heap.objs.size (ρ1.hold s2.heap.objs.size) (upd H2 s2.heap.objs.size (.lst [])) (aQ own.length js δ) [] M1 fp
   { s2 with heap:=pushCells (hp1.push { cls:=.type "dict",data:=.dict #[] }) scope.names,toks:=s2.toks }:=
  ⟨_,_,_,[],IC,.refl (fun z=>nf (.inl z)),jb,(sG (ev.mono x1) _ _).kp (jL hfree),upd_same,.nil,fp1⟩
 have tn0:tn 0 (pushCells (hp1.push { cls:=.type "dict",data:=.dict #[] }) scope.names):=Tn.keep _ _ _ st2 (fun b _ o e=>old b o e)
 have loop:codeAny (model X.prog X.w) X.A (.compLoop (.ListComp elt (⟨t0,i0,f0,0⟩::gs) scope pos) 0 (.ref it) (.ref s2.heap.objs.size) (compEnvC scope (cellsFrom (hp1.objs.size+1) scope.names cl) hp1.objs.size X.env))
   (compPost (model X.prog X.w) X.A X.xe none (EP X pins σ Q) (.ref s2.heap.objs.size) hp1.objs.size) { s2 with heap:=pushCells (hp1.push { cls:=.type "dict",data:=.dict #[] }) scope.names,toks:=s2.toks }:=by
  refine vL (X:=X.bc pins scope (cellsFrom (hp1.objs.size+1) scope.names cl) (own++fr) fp hp1.objs.size s2 H2) hc rfl (hturn _ _ _) (hW _ _) (hmono _ _) (hg ..) (ht ..) (hb pins (hp1.objs.size+1) fp hp1.objs.size s2 H2 s2.heap.objs.size) Tn iok (.head _) (jL hfree) fok st tn0 hrun fun s' c'=>?_
  obtain⟨σ4,H4,ρ4,ys,I4,x4,j4,ev4,ha4,cl4,fr4⟩:=c'.ex
  obtain⟨m4,hn4,_⟩:=I4.loc
  refine⟨m4,hn4,fun h' hsb'=>?_⟩
  have un:=wD I4.base hsb' hC
  have ok4:=sI I4.hok hsb' I4.free
  exact⟨.ref s2.heap.objs.size,H4,I2.call' (s':={ s' with heap:=h' }) (ch:=fp) (I4.os) un ok4 I4.bare (fun b hb=>by
   obtain⟨_,g2,g3,g4,g5,g6⟩:=f2 b hb
   exact⟨g4,g2,g5,g6⟩),rfl,o.fin hfree nf x4 j4 ha4 cl4 g3⟩
 show codeAny _ _ (.compStart _ 0 (.ref it) (.ref s2.heap.objs.size) (compEnvC scope (cellsFrom (hp1.objs.size+1) scope.names cl) hp1.objs.size X.env)) _ _
 exact p6 rfl rfl loop (Tn.self X.A 0 _ _ _ tn0 loop)⟩
theorem cz{X:Cx}{E:XK}{scope:Scope}{cl:List (Str×Addr)}{own:List Str}{js:List Nat}{fr:List Str}{elt t0 i0:Expr}{f0:List Expr}{pos:Pos}{fi:aa->DM Itn}{fg:D->aa->DM aa}{ft:aa->DM Bool}{fe:aa->DM D}
  (o:Out) (hc:X.calm=true) (T:CompG X scope cl own js fr) (hi:DI X E t0 i0 fi)
  (hg:∀pins m fp C s₂ H₂,DG (X.bc pins scope (cellsFrom m scope.names cl) (own++fr) fp C s₂ H₂) E0 t0 fg) (ht:∀pins m fp C s₂ H₂,DTs (X.bc pins scope (cellsFrom m scope.names cl) (own++fr) fp C s₂ H₂) E0 f0 ft)
  (he:∀pins m fp C s₂ H₂,DE (X.bc pins scope (cellsFrom m scope.names cl) (own++fr) fp C s₂ H₂) E0 elt fe)
  (hs:∀y,foldedSetIterable i0 X.env y=pure y:=by intro _;rfl) :
  DE X E (.ListComp elt [⟨t0,i0,f0,0⟩] scope pos) (fun δ=>fi δ>>=fun it=>dj (cM fg ft (bu fe) it (aQ own.length js δ) [])>>=fun p=>o.run p.2):=
 wN (bodyK:=fun Y acc=>oH elt (.ref acc) Y.env) (W:=fun Y acc P s=>wpAny (model Y.prog Y.w) Y.A (eval elt Y.env) (fun x s1=>wpAny (model Y.prog Y.w) Y.A (call (.builtin "list.append") [.ref acc,x]) (fun _ s2=>P s2) (fun _ _=>False) s1) (fun _ _=>False) s) o hc T hi
  (fun Y it acc=>yu ..) (fun Y acc=>vz) (fun Y acc P P' s hp h=>wpAny_mono h (fun x s1 h1=>wpAny_mono h1 (fun _ s2 h2=>hp _ h2) fun _ _ z=>z) fun _ _ z=>z) hg ht (fun pins m fp C s₂ H₂ acc=>sE rfl (he ..)) hs
def frz:D->Option (Bool×List D)
 |.tup l=>some (true,l)
 |.lst l=>some (false,l)
 |_=>none
def pairs:List D->List D->List D
 |x::xs,y::ys=>.tup [x,y]::pairs xs ys
 |_,_=>[]
def Ek:List D->Option Itn
 |[x,y]=>match frz x,frz y with
   |some (_,l),some (_,m)=>some (.fix (pairs l m))
   |_,_=>none
 |_=>none
section
variable{mg:Str->Option Value}{ρ:Rh}{H:Hp}
theorem Aa{K:PySem.W.Frag}{x:V}{d:D}{b:Bool}{l:List D}(c:Cv mg ρ H x d)(e:frz d=some (b,l)):∃a xs,x=.ref a∧a∉ρ∧H a=some (if b then .tup xs else .lst xs)∧Cvs mg ρ H xs l:=by
 cases c with
 |tup n h c=>cases e;exact⟨_,_,rfl,n,h,c⟩
 |lst n h c=>cases e;exact⟨_,_,rfl,n,h,c⟩
 |_=>cases e
theorem yt{K:PySem.W.Frag}{b:Bool}{a:Addr}{xs:List V}(h:H a=some (if b then .tup xs else .lst xs)):qz b K H a xs:=by
 cases b with
 |true=>exact SqT.of h
 |false=>exact SqL.of h
end
theorem BR{α β γ:Type}(m:DM α)(f:α->DM β)(g:β->DM γ):(m>>=f)>>=g=m>>=fun a=>f a>>=g:=by
 funext M
 show DM.bind (DM.bind m f) g M=DM.bind m (fun a=>DM.bind (f a) g) M
 unfold DM.bind
 cases m M with
 |none=>rfl
 |some r=>obtain⟨r,M'⟩:=r;cases r<;>rfl
theorem yx{X:Cx}{E:XK}{pos:Pos}:DE X E (.Dict [] [] pos) (fun _=>pure (.dic [] [])):=⟨PE.mono pe_dnewK fun σ H Q h=>by
 obtain⟨ρ,δ,M,ev,j,g⟩:=h
 exact fun p hp=>g.pure ρ _ _ (.lay hp) (j.lay _ hp) (.dic (j.fresh hp) upd_same rfl .nil)⟩
theorem yz{X:Cx}{E:XK}{i j:Int}{k1 k2:Nat}{p1 p2 pos:Pos}:DE X E (.Dict [some (.Constant (.int i) k1 p1)] [.Constant (.int j) k2 p2] pos) (fun _=>pure (.dic [.inl i] [.int j])):=⟨PE.mono (pe_disp (pps_cons pe_int pe_int pps_nil) rfl rfl (by simp) (by show 1≤15;decide)) fun σ H Q h=>by
 obtain⟨ρ,δ,M,ev,jj,g⟩:=h
 refine fun p hp=>⟨upd_same,[(.inl i,.int j)],rfl,(by show 1≤15;decide),?_⟩
 have e:upd (upd H p (HO.dK [])) p (HO.dK (mergeK [] [(.inl i,.int j)]))=upd H p (.dK [(.inl i,.int j)]):=upd_upd
 rw[e]
 exact g.pure ρ _ _ (.lay hp) (jj.lay _ hp) (.dic (ks:=[.inl i]) (xs:=[.int j]) (jj.fresh hp) upd_same rfl (.cons (.int j) .nil))⟩
theorem fW:∀ {names:List (Str×NameKind)}{m:Nat}{y:Str}{c:Addr},(y,c)∈cellsFrom m names []->(y,NameKind.cell)∈names
 |[],_,_,_,h=>nomatch h
 | (n,k)::r,m,y,c,h=>by
   unfold cellsFrom at h
   split at h
   ·rename_i hk
    rw[cj] at h
    rcases List.mem_append.mp h with z | z
    ·exact .tail _ (fW z)
    ·cases List.mem_singleton.mp z
     have hk':k=.cell:=by cases k<;>first | rfl | cases hk
     rw[hk'];exact .head _
   ·exact .tail _ (fW h)
def isC:NameKind->Bool
 |.cell=>true
 |_=>false
theorem Ad{k:NameKind}(h:isC k=true):k=.cell:=by cases k<;>first | rfl | cases h
theorem yR{names:List (Str×NameKind)}(h:(names.all fun p=>!isC p.2 || (match names.lookup p.1 with | some k=>isC k | none=>false))=true):∀(m:Nat) y c,(cellsFrom m names []).lookup y=some c->names.lookup y=some .cell:=fun m y c e=>by
 have hm:=fW (PySem.mem_of_lookup e)
 have q:=List.all_eq_true.mp h _ hm
 simp only[isC,Bool.not_true,Bool.false_or] at q
 split at q
 ·rename_i k hk
  rw[hk,Ad q]
 ·cases q
theorem yU{cl:List (Str×Addr)}{names:List (Str×NameKind)}(h:qC (fun p=>(match names.lookup p.1 with | some k=>isC k | none=>false)=false) cl):∀y c,cl.lookup y=some c->names.lookup y≠some .cell:=fun y c e z=>by
 have:=jJ h (y,c) (L2.mem_of_lookup e)
 simp only[z,isC] at this
 cases this
end L3
namespace L3
open PySem PySem.Spec L2
@[simp] theorem au{α β:Type}(a:α)(f:α->DM β):((Pure.pure a:DM α)>>=f)=f a:=id rfl
@[simp] theorem bw{α β γ:Type}(m:DM α)(f:α->DM β)(g:β->DM γ):(m>>=f)>>=g=m>>=fun a=>f a>>=g:=BR m f g
@[simp] theorem ir{α:Type}(a:α):(opt (some a):DM α)=Pure.pure a:=id rfl
@[simp] theorem Ge{α:Type}(a:α):dj (Pure.pure a:DM α)=Pure.pure a:=id rfl
@[simp] theorem Em{α β:Type}(c:Str)(f:α->DM β):((raise c:DM α)>>=f)=raise c:=id rfl
theorem bR{α:Type}{f:Mo->Option α}{a:α}(h:∀M,f M=some a):(rd f:DM α)=Pure.pure a:=by
 funext M
 show (f M).map _=_
 rw[h M];rfl
@[simp] theorem Gg(f g:aa->DM Fl)(δ:aa):uJ f g δ=f δ>>=fun r=>match r with
 |.nx δ'=>g δ'
 |r=>Pure.pure r:=id rfl
@[simp] theorem uD(i:Nat)(δ:aa):iY i δ=opt ((δ[i]?).join):=id rfl
@[simp] theorem dB(b:Bool):cU (.bl b)=Pure.pure b:=id rfl
@[simp] theorem EY(p n:Nat)(fb:aa->DM Fl)(ds:List D):aP p n fb ds=if ds.length=p then fb (cD n ds)>>=fun r=>match r with
 |.nx _=>Pure.pure .non
 |.rt d=>Pure.pure d
 |_=>stuck else stuck:=id rfl
@[simp] theorem En(n:Nat)(ds:List D):cD n ds=ds.map some++List.replicate (n-ds.length) none:=id rfl
@[simp] theorem dJ(i:Nat)(d:D)(δ:aa):gN i d δ=Pure.pure (δ.set i (some d)):=id rfl
@[simp] theorem Gj(n:Nat)(fs:List D->aa->DM aa)(l:List D)(δ:aa):gT n fs (.tup l) δ=if l.length=n then fs l δ else stuck:=id rfl
@[simp] theorem FQ(f:D->aa->DM aa)(fs:List D->aa->DM aa)(d:D)(l:List D)(δ:aa):jy f fs (d::l) δ=f d δ>>=fun δ'=>fs l δ':=id rfl
@[simp] theorem FW(δ:aa):qg [] δ=Pure.pure δ:=id rfl
@[simp] theorem Gf(i j:Nat)(fa:aa->DM (List D))(δ:aa):Be i j fa δ=fa δ>>=fun l=>match l with
 |[v,w]=>Pure.pure (.nx ((δ.set i (some v)).set j (some w)))
 |_=>stuck:=id rfl
@[simp] theorem Cq(i j:Int):(rd (bY (.int i) (.int j)):DM D)=Pure.pure (.int (i+j)):=id rfl
@[simp] theorem yq(i j:Int):(rd (jk (.int i) (.int j)):DM D)=Pure.pure (.int (i-j)):=id rfl
@[simp] theorem pF(i j:Int):(rd (lM (.int i) (.int j)):DM D)=Pure.pure (.bl (decide (i<j))):=id rfl
@[simp] theorem xN(i j:Int):(rd (pW (.int i) (.int j)):DM D)=Pure.pure (.bl (decide (i≤j))):=id rfl
@[simp] theorem Ed(i j:Int):(rd (gB (.int i) (.int j)):DM D)=Pure.pure (.bl (decide (j<i))):=id rfl
@[simp] theorem Ec(i j:Int):(rd (vC (.int i) (.int j)):DM D)=Pure.pure (.bl (decide (j≤i))):=id rfl
@[simp] theorem Gb(i:Int):(rd (xn (.int i)):DM D)=Pure.pure (.int (-i)):=id rfl
@[simp] theorem Fy(i:Int):(rd (Dt [.int i]):DM D)=Pure.pure (.int (if i<0 then -i else i)):=id rfl
@[simp] theorem Ff(i j:Int):(rd (uw [.int i,.int j]):DM D)=Pure.pure (.int (if j > i then j else i)):=id rfl
@[simp] theorem Fg(i j:Int):(rd (Ca [.int i,.int j]):DM D)=Pure.pure (.int (if j<i then j else i)):=id rfl
theorem Cz{i j:Int}(h:0<j):(rd (lN (.int i) (.int j)):DM D)=Pure.pure (.int (i%j)):=bR fun M=>by simp[cI,h]
theorem CG{i j:Int}(h:fK i j=true):(rd (ph (.int i) (.int j)):DM D)=Pure.pure (.int (i*j)):=bR fun M=>by simp[cI,h]
theorem Bm{i j:Int}(h:mD i j=true):(rd (oJ (.int i) (.int j)):DM D)=Pure.pure (.int (i / j)):=bR fun M=>by simp[cI,h]
theorem yp{i j:Int}(h:xY i j=true):(rd (uA (.int i) (.int j)):DM D)=Pure.pure (.int (i^j.toNat)):=bR fun M=>by simp[cI,h]
theorem bits_le{i:Int}{n:Nat}(h:i.natAbs<2^n):Builtin.Int.intBits i≤n:=by
 unfold Builtin.Int.intBits
 split
 ·exact Nat.zero_le _
 ·rename_i h0
  have:i.natAbs≠0:=by intro z;apply h0;simp;omega
  exact (Nat.log2_lt this).mpr h
theorem El{i j:Int}(h:i.natAbs<2^64):fK i j=true:=by
 unfold fK
 have:¬ (Builtin.Int.intBits i > shortFactorBits):=by have:=bits_le h;unfold shortFactorBits;omega
 simp[this]
theorem yP{i j:Int}(h:j.natAbs<2^64):fK i j=true:=by
 unfold fK
 have:¬ (Builtin.Int.intBits j > shortFactorBits):=by have:=bits_le h;unfold shortFactorBits;omega
 simp[this]
theorem yE{i j:Int}(h0:0<j)(h:j.natAbs<2^1000):mD i j=true:=by
 unfold mD
 have a:Builtin.divisionGoesByPylong i j=false:=by
  unfold Builtin.divisionGoesByPylong
  have hj:j.natAbs≠0:=by omega
  have hl:j.natAbs.log2<1000:=(Nat.log2_lt hj).mpr h
  have h0':(j==0)=false:=by simp;omega
  simp only[h0']
  have:¬ (j.natAbs.log2 / 30+1 > 300):=by omega
  simp[this]
 simp[a,h0]
theorem Bq{a b:Nat}(h0:0<b):(rd (lN (.int (a:Int)) (.int (b:Int))):DM D)=Pure.pure (.int ((a%b:Nat):Int)):=by
 rw[Cz (by omega),Int.natCast_emod]
def nD(n:Nat):D:=.int (n:Int)
def nT(l:List Nat):D:=.tup (l.map nD)
theorem lB{α:Type}{l:List α}{i:Nat}{a:α}(h:l[i]?=some a):atI l (i:Int)=some a:=by
 have hi:=(List.getElem?_eq_some_iff.mp h).1
 unfold atI ixN
 rw[if_pos (by omega),if_pos (by omega)]
 simpa using h
theorem iU{l:List D}{i:Nat}{a:D}(h:l[i]?=some a):(rd (aY (.tup l) (.int (i:Int))):DM D)=Pure.pure a:=bR fun M=>lB h
theorem uE{l:List D}{i:Nat}{a:D}(h:l[i]?=some a):(rd (aY (.lst l) (.int (i:Int))):DM D)=Pure.pure a:=bR fun M=>lB h
theorem Cy{l:List Nat}{i:Nat}{a:Nat}(h:l[i]?=some a):(rd (aY (nT l) (.int (i:Int))):DM D)=Pure.pure (nD a):=iU (by simp[h])
@[simp] theorem Fe(l:List D):(rd (fZ [.tup l]):DM D)=Pure.pure (.int (l.length:Int)):=id rfl
@[simp] theorem Fb(l:List D):(rd (fZ [.lst l]):DM D)=Pure.pure (.int (l.length:Int)):=id rfl
@[simp] theorem Fd(l:List Int):(rd (fZ [.scr l]):DM D)=Pure.pure (.int (l.length:Int)):=id rfl
@[simp] theorem Ft(l:List D):(rd (o6 [.lst l]):DM D)=Pure.pure (.tup l):=id rfl
@[simp] theorem Fv(l:List D):(rd (o6 [.tup l]):DM D)=Pure.pure (.tup l):=id rfl
theorem iM:∀l:List Nat,intsOf (l.map nD)=some (l.map fun n:Nat=>(n:Int))
 |[]=>rfl
 |i::l=>by simp[intsOf,nD];exact iM l
theorem nU:∀l:List Nat,(l.map fun n:Nat=>(n:Int)).sum=((l.sum:Nat):Int)
 |[]=>rfl
 |i::l=>by simp[nU l]
@[simp] theorem Fp(l:List Nat):(rd (uN [nT l]):DM D)=Pure.pure (nD l.sum):=bR fun M=>by
 show (intsOf (l.map nD)).map _=_
 rw[iM];simp[nD,nU]
@[simp] theorem Fo(l:List Nat):(rd (uN [.lst (l.map nD)]):DM D)=Pure.pure (nD l.sum):=bR fun M=>by
 show (intsOf (l.map nD)).map _=_
 rw[iM];simp[nD,nU]
@[simp] theorem Br{n:Nat}(h:n<2^62):jf [.int (n:Int)]=some (.fix ((List.range n).map nD)):=by
 have:jW (n:Int)=true:=by unfold jW;exact decide_eq_true ⟨by omega,by omega⟩
 simp[jf,this,jU,nD]
@[simp] theorem Cr(l:List D):xU (.tup l)=some (.fix l):=id rfl
theorem cu{l:List D}(h:l.length≤1000000):cV l=Pure.pure (.tup l):=by
 have:du l=true:=by unfold du;exact decide_eq_true (by show l.length≤2^24;omega)
 simp[cV,this]
theorem b8{l:List D}(h:l.length≤1000000):cN l=Pure.pure (.lst l):=by
 have:du l=true:=by unfold du;exact decide_eq_true (by show l.length≤2^24;omega)
 simp[cN,this]
@[simp] theorem tL(fg:D->aa->DM aa)(ft:aa->DM Bool)(fb:aa->List D->DM (aa×List D))(ds:List D)(δ:aa)(l:List D):cM fg ft fb (.fix ds) δ l=bx fg ft fb ds δ l:=id rfl
theorem nH {fg:D->aa->DM aa}{ft:aa->DM Bool}{fe:aa->DM D} (S:aa->Prop) (en:D->aa) (p:D->Bool) (e:D->D):∀ (ds:List D) (δ:aa) (l:List D),S δ->l.length + ds.length≤1000000->
  (∀d∈ds,∀δ,S δ->fg d δ=Pure.pure (en d)∧S (en d))->(∀d∈ds,ft (en d)=Pure.pure (p d))->(∀d∈ds,p d=true->fe (en d)=Pure.pure (e d))->∃δ',bx fg ft (bu fe) ds δ l=Pure.pure (δ',l++(ds.filter p).map e)
 |[],δ,l,_,_,_,_,_=>⟨δ,by simp[bx]⟩
 | d::ds,δ,l,s,hl,h0,h1,h2=>by
   have a:=h0 d (List.mem_cons_self ..) δ s
   have b:=h1 d (List.mem_cons_self ..)
   have hl':l.length+(ds.length+1)≤1000000:=by simpa using hl
   have lt:l.length<sizeLine:=by show l.length<2^24;omega
   have ih:=fun l' hl'=>nH S en p e ds (en d) l' a.2 hl' (fun x hx=>h0 x (List.mem_cons_of_mem _ hx)) (fun x hx=>h1 x (List.mem_cons_of_mem _ hx)) (fun x hx=>h2 x (List.mem_cons_of_mem _ hx))
   by_cases hp:p d=true
   ·have c:=h2 d (List.mem_cons_self ..) hp
    obtain⟨δ',q⟩:=ih (l++[e d]) (by simp;omega)
    refine⟨δ',?_⟩
    simp[bx,a.1,b,hp,bu,c,lt,q]
   ·obtain⟨δ',q⟩:=ih l (by omega)
    refine⟨δ',?_⟩
    simp[bx,a.1,b,hp,q]
@[simp] theorem wj(l:List D):Out.run .val l=Pure.pure (.lst l):=id rfl
theorem BV{ft:aa->DM Bool}{fe:aa->DM D}{x:Option D}{rest:aa}{ds:List D}(p:D->Bool)(e:D->D)(hl:ds.length≤1000000)(h1:∀d∈ds,ft (some d::rest)=Pure.pure (p d))(h2:∀d∈ds,p d=true->fe (some d::rest)=Pure.pure (e d)){β:Type}{k:aa×List D->DM β}{k':List D->DM β}(hk:∀q,k q=k' q.2) :
  (dj (bx (gN 0) ft (bu fe) ds (x::rest) [])>>=k)=k' ((ds.filter p).map e):=by
 obtain⟨δ',q⟩:=nH (fg:=gN 0) (ft:=ft) (fe:=fe) (fun δ=>∃x,δ=x::rest) (fun d=>some d::rest) p e ds (x::rest) [] ⟨x,rfl⟩ (by simpa using hl) (fun d _ δ ⟨x,h⟩=>⟨by subst h;rfl,_,rfl⟩) h1 h2
 rw[q];simp[hk]
@[simp] theorem zr{α:Type}(m:DM α):(m>>=fun a=>(Pure.pure a:DM α))=m:=by
 funext M
 show DM.bind m _ M=m M
 unfold DM.bind
 cases m M with
 |none=>rfl
 |some r=>obtain⟨r,M'⟩:=r;cases r<;>rfl
def gJ:Option D->List D->Option D
 |x,[]=>x
 |_,d::ds=>gJ (some d) ds
theorem iK:∀ (as bs:List Int),PyData.eqvAll (as.map .int) (bs.map .int)=decide (as=bs)
 |[],[]=>by simp[PyData.eqvAll]
 |[],b::bs=>by simp[PyData.eqvAll]
 |a::as,[]=>by simp[PyData.eqvAll]
 |a::as,b::bs=>by
   rw[List.map_cons,List.map_cons]
   simp only[PyData.eqvAll,PyData.eqv,iK as bs]
   by_cases h:a=b<;>by_cases h2:as=bs<;>simp[h,h2]
theorem gK:∀l:List Int,dU (l.map D.int)=some (l.map PyData.int)
 |[]=>rfl
 |i::l=>by simp[dU,toPy,gK l]
theorem lay_ints:∀l:List Int,PyData.canLayAll0 (l.map PyData.int)=true
 |[]=>rfl
 |i::l=>by simp[PyData.canLayAll0,PyData.canLay0,lay_ints l]
theorem gH:∀ l:List Int,PyData.depthAll (l.map PyData.int)≤1
 |[]=>by simp[PyData.depthAll]
 |i::l=>by
   have:=gH l
   simp only[List.map_cons,PyData.depthAll,PyData.depth]
   omega
@[simp] theorem Cu(i j:Int):(rd (bW (.int i) (.int j)):DM D)=Pure.pure (.bl (decide (i=j))):=bR fun M=>by
 simp[bW,eqB,eqP,toPy,PyData.canLay0,PyData.depth,PyData.eqv]
 rw[Bool.eq_iff_iff];simp
@[simp] theorem uF(i j:Int):(rd (cR (.int i) (.int j)):DM D)=Pure.pure (.bl (!decide (i=j))):=bR fun M=>by
 simp[cR,eqB,eqP,toPy,PyData.canLay0,PyData.depth,PyData.eqv]
 rw[Bool.eq_iff_iff];simp
@[simp] theorem FN(i j:Str):(rd (bW (.str i) (.str j)):DM D)=Pure.pure (.bl (decide (i=j))):=id rfl
@[simp] theorem Ga(i j:Str):(rd (cR (.str i) (.str j)):DM D)=Pure.pure (.bl (!decide (i=j))):=id rfl
theorem qG(a b:List Int):eqB (.tup (a.map D.int)) (.tup (b.map D.int))=some (decide (a=b)):=by
 have:=gH a
 have h:∀n,n≤1->1+n≤60:=fun n h=>by omega
 simp only[eqB,eqP,toPy,gK,Option.map_some,PyData.canLay0,lay_ints,PyData.depth,PyData.eqv,iK]
 simp
 omega
theorem mK(l:List Nat):nT l=.tup ((l.map fun n:Nat=>(n:Int)).map D.int):=by simp[nT,nD,Function.comp_def]
theorem jK{a b:List Nat}:(a.map fun n:Nat=>(n:Int))=(b.map fun n:Nat=>(n:Int)) ↔ a=b:=List.map_inj_right fun x y (h:(x:Int)=(y:Int))=>by omega
@[simp] theorem FJ(a b:List Nat):(rd (bW (nT a) (nT b)):DM D)=Pure.pure (.bl (decide (a=b))):=bR fun M=>by
 rw[mK,mK,bW,qG];simp[jK]
@[simp] theorem FZ(a b:List Nat):(rd (cR (nT a) (nT b)):DM D)=Pure.pure (.bl (!decide (a=b))):=bR fun M=>by
 rw[mK,mK,cR,qG];simp[jK]
theorem tW:∀l:List Bool,eO (l.map D.bl)=some l
 |[]=>rfl
 |b::l=>by simp[eO,xP,tW l]
@[simp] theorem jF(l:List Bool):(rd (gR [.lst (l.map D.bl)]):DM D)=Pure.pure (.bl (l.all id)):=bR fun M=>by
 simp[gR,aV,tW]
theorem wA:∀ l:List Nat,eO (l.map nD)=some (l.map fun n=>n != 0)
 |[]=>rfl
 |b::l=>by
   simp only[List.map_cons,eO,wA l,nD,xP]
   congr 2
   rw[Bool.eq_iff_iff];simp
@[simp] theorem Ez(l:List Nat):(rd (zM [nT l]):DM D)=Pure.pure (.bl (l.any (·!= 0))):=bR fun M=>by
 simp[zM,nT,wA,List.any_map]
theorem rY:∀ l:List Nat,l.any (·!= 0)=decide (0<l.sum)
 |[]=>rfl
 |a::l=>by
   rw[List.any_cons,rY l,Bool.eq_iff_iff]
   simp only[Bool.or_eq_true,bne_iff_ne,decide_eq_true_eq,ne_eq]
   rw[List.sum_cons]
   omega
theorem b7{d:D}{t c:String}(h:∀M,tyOf d M=some t)(hc:tys.contains c=true):(rd (fY [d,.ty c]):DM D)=Pure.pure (.bl (uM t c)):=bR fun M=>by
 simp only[fY,h M,Option.bind_some,hc,if_true]
@[simp] theorem Fq(b:Bool):(rd (nW (.bl b)):DM Bool)=Pure.pure b:=id rfl
def Eg(d:D):Prop:=∃s,(rd (qj [d]):DM D)=Pure.pure (.str s)
theorem wy {l:List Int} (h:∀ i∈l,i.natAbs<2 ^ 1000):PyData.showableAll (l.map PyData.int)=true:=by
 induction l with
 |nil=>rfl
 | cons i l ih=>
   have h0:=h i (by simp)
   have:i.natAbs.log2<1920:=by
    rcases Nat.eq_zero_or_pos i.natAbs with z | z
    ·rw[z];decide
    ·exact Nat.lt_of_lt_of_le ((Nat.log2_lt (by omega)).mpr h0) (by decide)
   simp[PyData.showableAll,PyData.showable,this,ih fun i hi=>h i (by simp[hi])]
@[simp] theorem Fw(l m:List D):Ek [.tup l,.tup m]=some (.fix (pairs l m)):=id rfl
def Rn{α:Type}(m:DM α)(M:Mo)(Q:α->Mo->Prop):Prop:=∃a M',m M=some (.ok a,M')∧Q a M'
theorem Rn.bind{α β:Type}{m:DM α}{f:α->DM β}{M:Mo}{Q1:α->Mo->Prop}{Q:β->Mo->Prop}(h:Rn m M Q1)(k:∀a M',Q1 a M'->Rn (f a) M' Q):Rn (m>>=f) M Q:=by
 obtain⟨a,M',e,q⟩:=h
 obtain⟨b,M2,e2,q2⟩:=k a M' q
 refine⟨b,M2,?_,q2⟩
 show DM.bind m f M=_
 unfold DM.bind
 rw[e];exact e2
theorem Rn.pure{α:Type}{a:α}{M:Mo}{Q:α->Mo->Prop}(q:Q a M):Rn (Pure.pure a) M Q:=⟨a,M,rfl,q⟩
theorem Rn.mono{α:Type}{m:DM α}{M:Mo}{Q R:α->Mo->Prop}(h:Rn m M Q)(k:∀a M',Q a M'->R a M'):Rn m M R:=by
 obtain⟨a,M',e,q⟩:=h
 exact⟨a,M',e,k a M' q⟩
theorem Rn.rd{α:Type}{f:Mo->Option α}{M:Mo}{a:α}{Q:α->Mo->Prop}(h:f M=some a)(q:Q a M):Rn (L3.rd f) M Q:=⟨a,M,by unfold L3.rd;rw[h];rfl,q⟩
theorem Rn.bindRd{α β:Type}{f:Mo->Option α}{k:α->DM β}{M:Mo}(a:α){Q:β->Mo->Prop}(h:f M=some a)(q:Rn (k a) M Q):Rn (L3.rd f>>=k) M Q:=Rn.bind (Rn.rd h (Q:=fun b M'=>b=a∧M'=M) ⟨rfl,rfl⟩) (fun b M' ⟨e1,e2⟩=>by rw[e1,e2];exact q)
theorem Rn.call{p n:Nat}{fb:aa->DM Fl}{ds:List D}{M:Mo}{Q:D->Mo->Prop}(hp:ds.length=p)(h:Rn (fb (cD n ds)) M fun r M'=>∃d,r=.rt d∧Q d M'):Rn (aP p n fb ds) M Q:=by
 unfold aP
 rw[if_pos hp]
 refine Rn.bind h fun r M' ⟨d,e,q⟩=>?_
 subst e
 exact Rn.pure q
structure Sb(p:Nat)(M M':Mo):Prop where
 le:M.length≤M'.length
 keep:∀q,q≠p->q<M.length->M'[q]?=M[q]?
theorem Sb.refl{p:Nat}{M:Mo}:Sb p M M:=⟨Nat.le_refl _,fun _ _ _=>rfl⟩
theorem Sb.trans{p:Nat}{M M1 M2:Mo}(h:Sb p M M1)(k:Sb p M1 M2):Sb p M M2:=⟨Nat.le_trans h.le k.le,fun q hq hl=>(k.keep q hq (Nat.lt_of_lt_of_le hl h.le)).trans (h.keep q hq hl)⟩
theorem Sb.set{p:Nat}{M:Mo}{o:DO}:Sb p M (M.set p o):=⟨by simp,fun q hq hl=>List.getElem?_set_ne (fun z=>hq z.symm)⟩
theorem Sb.push{p:Nat}{M:Mo}{o:DO}:Sb p M (M++[o]):=⟨by simp,fun q hq hl=>List.getElem?_append_left hl⟩
theorem Sb.at{p q:Nat}{M M':Mo}{o:DO}(h:Sb p M M')(hq:q≠p)(e:M[q]?=some o):M'[q]?=some o:=(h.keep q hq (List.getElem?_eq_some_iff.mp e).1).trans e
theorem Sb.new{p q:Nat}{M M':Mo}(h:M'.length=M.length∨M.length≤M'.length)(hq:M.length≤q){M2:Mo}(k:Sb q M' M2)(h1:Sb p M M'):Sb p M M2:=⟨Nat.le_trans h1.le k.le,fun r hr hl=>(k.keep r (by omega) (Nat.lt_of_lt_of_le hl h1.le)).trans (h1.keep r hr hl)⟩
theorem yO{l:List D}{M:Mo}(h:l.length≤1000000):dX l M=some (.ok (.ref M.length),M++[.lst l]):=by
 have:du l=true:=by unfold du;exact decide_eq_true (by show l.length≤2^24;omega)
 unfold dX
 rw[if_pos this]
theorem Rn.dX{l:List D}{M:Mo}{β:Type}{k:D->DM β}{Q:β->Mo->Prop}(h:l.length≤1000000)(q:Rn (k (.ref M.length)) (M++[.lst l]) Q):Rn (L3.dX l>>=k) M Q:=Rn.bind ⟨_,_,yO h,(⟨rfl,rfl⟩:D.ref M.length=.ref M.length∧M++[.lst l]=M++[.lst l])⟩ (Q1:=fun a M'=>a=.ref M.length∧M'=M++[.lst l]) (fun a M' ⟨e1,e2⟩=>by rw[e1,e2];exact q)
theorem jz{n:Nat}{M:Mo}{l:List D}{i:Nat}{a:D}(h:M[n]?=some (.lst l))(hi:l[i]?=some a):aY (.ref n) (.int (i:Int)) M=some a:=by
 show (aV (.ref n) M).bind _=_
 simp only[aV,h,Option.bind_some]
 exact lB hi
theorem Aj{n i:Nat}(h:i<n):ixN n (i:Int)=some i:=by
 unfold ixN
 rw[if_pos (by omega),if_pos (by omega)];simp
theorem pI{n:Nat}{M:Mo}{l:List D}{i:Nat}{v:D}(h:M[n]?=some (.lst l))(hi:i<l.length):uK (.ref n) (.int (i:Int)) v M=some (.ok (),M.set n (.lst (l.set i v))):=by
 delta uK
 dsimp only
 rw[h]
 dsimp only
 rw[Aj hi]
theorem mC{n:Nat}{M:Mo}{l:List D}{v:D}(h:M[n]?=some (.lst l))(hl:l.length<1000000):wI (.ref n) [v] M=some (.ok .non,M.set n (.lst (l++[v]))):=by
 have:l.length<sizeLine:=by show l.length<2^24;omega
 delta wI
 dsimp only
 rw[h]
 dsimp only
 rw[if_pos this]
theorem Rn.run{α β:Type}{m:DM α}{k:α->DM β}{M M':Mo}{a:α}{Q:β->Mo->Prop}(h:m M=some (.ok a,M'))(q:Rn (k a) M' Q):Rn (m>>=k) M Q:=Rn.bind (Q1:=fun b M2=>b=a∧M2=M') ⟨a,M',h,rfl,rfl⟩ (fun b M2 ⟨e1,e2⟩=>by rw[e1,e2];exact q)
theorem cB {tg:D->aa->DM aa}{fb:aa->DM Fl} (I:Nat->aa->Mo->Prop):∀ (ds:List D) (i:Nat) (δ:aa) (M:Mo),I i δ M->(∀ j d δ M,ds[j]?=some d->I (i + j) δ M->Rn (tg d δ >>= fb) M fun r M'=>∃ δ',r=.nx δ'∧I (i + j + 1) δ' M')->Rn (forL tg fb ds δ) M fun r M'=>∃ δ',r=.nx δ'∧I (i + ds.length) δ' M'
 |[],i,δ,M,h,_=>Rn.pure ⟨δ,rfl,h⟩
 | d::ds,i,δ,M,h,st=>by
   have s:=st 0 d δ M rfl h
   have e:forL tg fb (d::ds) δ=(tg d δ>>=fb)>>=fun r=>match r with
    |.nx δ2=>forL tg fb ds δ2
    |.ct δ2=>forL tg fb ds δ2
    |.bk δ2=>Pure.pure (.nx δ2)
    |.rt d=>Pure.pure (.rt d):=by rw[bw];rfl
   rw[e]
   refine Rn.bind s fun r M' ⟨δ',e,h'⟩=>?_
   subst e
   have ih:=cB I ds (i+1) δ' M' h' (fun j d δ M hj hI=>by
    have:=st (j+1) d δ M (by simpa using hj) (by rw[show i+(j+1)=i+1+j by omega];exact hI)
    rw[show i+1+j+1=i+(j+1)+1 by omega];exact this)
   rw[show i+(d::ds).length=i+1+ds.length by simp;omega]
   exact ih
section
variable{X:Cx}{E:XK}
theorem vD:PGet X (fun x y H Q=>∃p xs i v,x=.ref p∧y=.int i∧0≤i∧SqL X.K H p xs∧atI xs i=some v∧Q v H):=by
 intro pins s σ H x y ov iv Q I rx ry h
 obtain⟨p,xs,i,z,rfl,rfl,h0,hq,he,q⟩:=h
 cases rx
 obtain⟨t,rfl⟩:=ry
 obtain⟨its,r,pl,hz⟩:=I.list hq
 obtain⟨j,h1,h2,h3,h4,h5⟩:=atI_get he
 obtain⟨w,ew,rw'⟩:=r.get h2
 have hl:=r.length
 have hn:=line63
 have fin:EP X pins σ Q w s:=⟨z,H,I,rw',q⟩
 have hj:i.toNat=j:=by
  rw[seqIndex_of h0 h5] at h1
  exact Option.some.inj h1
 exact wpAny_getItem_list pl.isList h0 (by omega) (by rw[hj];simpa using ew) fin
def Ak:D->D->Mo->Option D
 |x,.int i,M=>if 0≤i then (aV x M).bind fun l=>atI l i else none
 |_,_,_=>none
theorem BZ:PGet X (rD X.mg E (fun x y=>rd (Ak x y))):=by
 intro pins s σ H x y ov iv Q I rx ry h
 obtain⟨ρ,M,dx,dy,j,cx,cy,go⟩:=h
 obtain⟨d,e,p⟩:=go.rd
 unfold Ak at e
 split at e
 ·cases cy
  split at e
  ·rename_i h0
   obtain⟨l,h1,e1⟩:=Option.bind_eq_some_iff.mp e
   obtain⟨a,xs,rfl,ha,c⟩:=cZ j cx h1
   obtain⟨w,e2,cw⟩:=c.at e1
   exact vD (X:=X) pins s σ H _ _ ov iv Q I rx ry ⟨_,_,_,_,rfl,rfl,h0,SqL.of ha,e2,p ρ H _ .refl j cw⟩
  ·cases e
 ·cases e
theorem yF{o i e:Expr}{fo fi fe:aa->DM D}{op:Operator}{gop:D->D->DM D}{tpos pos:Pos}(ho:DE X E o fo)(hi:DE X E i fi)(hop:bC X E (inplaceOp op) gop)(he:DE X E e fe)
  (ha:∀ov iv new,augStore i ov iv new=(do holding [new,ov,iv] (setItem ov iv new);release [new,ov,iv] [];pure .next):=by intros;rfl) :
  DS X E (.AugAssign (.Subscript o i tpos) op e pos) (fun δ=>fo δ>>=fun a=>fi δ>>=fun k=>rd (Ak a k)>>=fun x=>fe δ>>=fun y=>gop x y>>=fun z=>uK a k z>>=fun _=>pure (.nx δ)):=
 ⟨PS.mono (ps_augS (tip:=rD X.mg E gop) ho.h hi.h (BZ (E:=E)) he.h hop (uL (E:=E)) ha) fun D σ H h=>by
  obtain⟨ρ,δ,M,ev,j,g1⟩:=h
  refine⟨ρ,δ,M,ev,j,g1.bind fun ρ1 H1 M1 a da e1 j1 c1 g2=>⟨ρ1,δ,M1,ev.mono e1,j1,g2.bind fun ρ2 H2 M2 k dk e2 j2 c2 g3=>⟨ρ2,M2,da,dk,j2,c1.mono e2,c2,g3.bind fun ρ3 H3 M3 x dx e3 j3 c3 g4=>?_⟩⟩⟩
  have ev3:=((ev.mono e1).mono e2).mono e3
  refine⟨ρ3,δ,M3,ev3,j3,g4.bind fun ρ4 H4 M4 y dy e4 j4 c4 g5=>⟨ρ4,M4,dx,dy,j4,c3.mono e4,c4,g5.bind fun ρ5 H5 M5 z dz e5 j5 c5 g6=>?_⟩⟩
  refine⟨ρ5,M5,da,dk,dz,j5,(((c1.mono e2).mono e3).mono e4).mono e5,((c2.mono e3).mono e4).mono e5,c5,g6.bind fun ρ6 H6 M6 _ _ e6 j6 _ g7=>?_⟩
  exact g7.pure ρ6 H6 σ .refl j6 (((ev3.mono e4).mono e5).mono e6)⟩
end
end L3
namespace L3
open PySem PySem.Spec L2
open PyProof.Rows hiding St
theorem uW:bootBuiltins "enumerate"=some (.type "enumerate"):=by decide +kernel
def gf(i:Nat):List D->List D
 |[]=>[]
 |x::xs=>.tup [.int (i:Int),x]::gf (i+1) xs
def qe:List D->Option Itn
 |[x]=>(frz x).map fun p=>.fix (gf 0 p.2)
 |_=>none
theorem pB:∀ (l:List D) (k i:Nat),(gf k l)[i]?=(l[i]?).map fun x=>.tup [.int ((k + i:Nat):Int),x]
 |[],k,i=>by simp[gf]
 |x::xs,k,0=>by simp[gf]
 |x::xs,k,i+1=>by
   simp only[gf,List.getElem?_cons_succ,pB xs (k+1) i]
   rw[show k+1+i=k+(i+1) by omega]
theorem yI{mg:Str->Option Value}{ρ:Rh}{H:Hp}{K:PySem.W.Frag}{b:Bool}{l:Addr}{xs:List V}{ds:List D}(n1:l∉ρ)(h1:H l=some (if b then .tup xs else .lst xs))(c1:Cvs mg ρ H xs ds):ItOk mg ρ H (De K b l) (.fix (gf 0 ds)) where
 item:=fun i ρ' H' M' d e j q=>by
  have hq:(gf 0 ds)[i]?=some d:=Option.some.inj q
  rw[pB] at hq
  obtain⟨dx,e1,rfl⟩:=Option.map_eq_some_iff.mp hq
  obtain⟨x,hx,cx⟩:=c1.get e1
  have k1:=(e.keep _ _ h1 n1).2
  refine⟨⟨xs,x,yt k1,hx⟩,fun v H2 z=>?_⟩
  obtain⟨p,hp,rfl,z⟩:=z
  obtain⟨x',hx',rfl⟩:=z xs (yt k1)
  rw[hx] at hx';cases hx'
  rw[Nat.zero_add]
  exact⟨.lay hp,j.lay _ hp,.tup (j.fresh hp) upd_same (.cons (.int _) (.cons ((cx.kp e).mono (.lay hp)) .nil))⟩
 stop:=fun i ρ' H' M' e j q=>by
  have hq:(gf 0 ds)[i]?=none:=Option.some.inj q
  rw[pB,Option.map_eq_none_iff] at hq
  exact⟨xs,yt (e.keep _ _ h1 n1).2,List.getElem?_eq_none_iff.mpr (by rw[c1.len];exact List.getElem?_eq_none_iff.mp hq)⟩
theorem yD{X:Cx}{E:XK}{elts:List Expr}{kt:Nat}{tp:Pos}{a:Expr}{fa:aa->DM (List D)}{p pos:Pos}(hg:Gl X "enumerate")(hm:X.mg "enumerate"=none)(ha:DA X E [a] fa)(hs:notStar a=true:=by rfl) :
  DI X E (.Tuple elts kt tp) (.Call (.Name "enumerate" p) [a] [] pos) (fun δ=>fa δ>>=fun l=>opt (qe l)):=⟨by
 intro pins s σ H R I h
 obtain⟨ρ,δ,M,ev,j,g1⟩:=h
 refine Call_ (ld_blt I hg hm uW (PyProof.Rows.callWith_type1 (thn (ha.h.h pos pins s σ H (fun vs H1=>∃ρ1 M1 ds,Ext ρ H ρ1 H1∧J X.mg ρ1 M1 H1∧Cvs X.mg ρ1 H1 vs ds∧Go X.mg E (ItOk X.mg) R ρ1 H1 (opt (qe ds)) M1) I ⟨ρ,δ,M,ev,j,g1.bind fun ρ1 H1 M1 vs ds e1 j1 c1 g2=>⟨ρ1,M1,ds,e1,j1,c1,g2⟩⟩) fun us s1 h1=>?_) (bK hs) (by rfl)))
 obtain⟨vs,H1,I1,rv,ρ1,M1,ds,e1,j1,c1,g2⟩:=h1
 obtain⟨itn,ei,q⟩:=g2.opt
 unfold qe at ei
 split at ei
 rotate_left
 ·cases ei
 obtain⟨⟨b,l⟩,f1,rfl⟩:=Option.map_eq_some_iff.mp ei
 cases c1 with
 |cons k1 c1=>
 cases c1
 obtain⟨a1,xs,rfl,n1,h1,cx⟩:=Aa (K:=X.K) k1 f1
 cases rv with
 |cons r1 rv=>
 cases rv
 cases r1
 obtain⟨its1,w1,p1,_⟩:=I1.seqS (yt (K:=X.K) h1)
 refine ue p1 fun h' a1' a2' a3 a4=>wpAny_pyIter_enum a1' ?_
 have lt1:@LT.lt Nat _ a1 s1.heap.objs.size:=p1.lt
 have I2:Inv X pins σ H1 { s1 with heap:=h' }:=I1.kept (t':=s1.toks) a4
 refine⟨_,_,_,_,H1,rfl,I2,wC (b:=b) (e:=s1.heap.objs.size+1) (it:=s1.heap.objs.size) (l:=a1) (fun (h:@Eq Nat _ _)=>by omega) (fun (h:@Eq Nat _ _)=>by omega) (fun (h:@Eq Nat _ _)=>by omega),⟨⟨_,a1'⟩,a2'.1⟩,fun b hb=>?_,q ρ1 H1 _ .refl j1 (yI n1 h1 cx)⟩
 refine I1.fpOk ?_ (I1.hok.fresh ?_)<;>(simp only[List.mem_cons,List.mem_nil_iff,or_false] at hb;rcases hb with rfl | rfl<;>omega)⟩
theorem wO {X:Cx}{E:XK}{i:Nat}{x:Str}{px spos:Pos}{scope:Scope}{cl:List (Str×Addr)}{own:List Str}{js:List Nat}{fr:List Str}{elt t0 i0:Expr}{f0:List Expr}{gs:List Comprehension}{pos:Pos}{fi:aa->DM Itn}{fg:D->aa->DM aa}{ft:aa->DM Bool}{fb:aa->List D->DM (aa×List D)}
  {bodyK:Cx->Addr->Sem Fin->Sem Fin}{W:Cx->Addr->(Shared->Prop)->Shared->Prop} (o:Out) (hN:X.N.Nodup) (hi0:X.N[i]?=some x) (hx:Loc X.env.scope x) (hc:X.calm=true) (T:CompG X scope cl own js fr) (hi:DI X E t0 i0 fi)
  (hturn:∀(Y:Cx) it acc,compTurn (.ListComp elt (⟨t0,i0,f0,0⟩::gs) scope pos) 0 (.ref it) (.ref acc) Y.env=turnOf ⟨t0,i0,f0,0⟩ (bodyK Y acc) (.compLoop (.ListComp elt (⟨t0,i0,f0,0⟩::gs) scope pos) 0 (.ref it) (.ref acc) Y.env) (.ref it) Y.env)
  (hW:∀Y acc,nZ Y.prog Y.w Y.A (bodyK Y acc) (W Y acc)) (hmono:∀Y acc P P' s,(∀s,P s->P' s)->W Y acc P s->W Y acc P' s)
  (hg:∀pins m fp C s₂ H₂,DG (X.bc pins scope (cellsFrom m scope.names cl) (own++fr) fp C s₂ H₂) E0 t0 fg) (ht:∀pins m fp C s₂ H₂,DTs (X.bc pins scope (cellsFrom m scope.names cl) (own++fr) fp C s₂ H₂) E0 f0 ft)
  (hb:∀pins m fp C s₂ H₂ acc,BodyOk (X.bc pins scope (cellsFrom m scope.names cl) (own++fr) fp C s₂ H₂) acc (W (X.bc pins scope (cellsFrom m scope.names cl) (own++fr) fp C s₂ H₂) acc) fb)
  (hsw:swapsWith (.ListComp elt (⟨t0,i0,f0,0⟩::gs) scope pos) (some (.Name x px)) spos.line X.env=pure true:=by rfl)
  (hs:∀y,foldedSetIterable i0 X.env y=pure y:=by intro _;rfl) (hf:X.fn x=true∨X.env.scope.names.lookup x=some .local:=by first | exact .inl rfl | exact .inr rfl | assumption) :
  DS X E (.Assign [.Name x px] (.ListComp elt (⟨t0,i0,f0,0⟩::gs) scope pos) spos) (fun δ=>(fi δ>>=fun it=>dj (cM fg ft fb it (aQ own.length js δ) [])>>=fun p=>o.run p.2)>>=fun d=>pure (.nx (δ.set i (some d)))):=⟨by
 intro pins s σ H D I h
 obtain⟨ρ,δ,M,ev,j,g0⟩:=h
 let Q:VK:=fun v H'=>D.nx (σ.set i (some v)) H'
 have g1:Go X.mg E (Cv X.mg) Q ρ H (fi δ>>=fun it=>dj (cM fg ft fb it (aQ own.length js δ) [])>>=fun p=>o.run p.2) M:=g0.bind fun ρ1 H1 M1 v d e1 j1 c1 g2=>g2.pure ρ1 H1 _ .refl j1 ((ev.mono e1).set c1)
 rw[exec_Assign_Name_used _ _ _ _ hsw]
 refine wpAny_bind (wpAny_standAt (wpAny_bind ?_))
 show wpAny _ _ (do let _ ←comprehension (.ListComp elt (⟨t0,i0,f0,0⟩::gs) scope pos) scope X.env _ (newList []) false (eval i0 X.env) (some (assign (.Name x px) X.env))) _ _ s
 refine wpAny_bind (wpAny_mono (wpAny_comprehension_free (cl:=cl) (use:=some (assign (.Name x px) X.env)) (Q:=fun _ s'=>∃v H',Inv X pins (σ.set i (some v)) H' s'∧Q v H') rfl hs T.clos T.kind T.names ?_) (fun _ s' ⟨v,H',I',q'⟩=>wpAny_pure (wpAny_pure ⟨_,H',I',q'⟩)) fun _ _ e=>e)
 refine thn (hi.h pins s σ H (fun Jt H1=>∃ρ1 M1 it,Ext ρ H ρ1 H1∧J X.mg ρ1 M1 H1∧ItOk X.mg ρ1 H1 Jt it∧Go X.mg E (Cv X.mg) Q ρ1 H1 (dj (cM fg ft fb it (aQ own.length js δ) [])>>=fun p=>o.run p.2) M1) I
  ⟨ρ,δ,M,ev,j,g1.bind fun ρ1 H1 M1 Jt it e1 j1 iok g2=>⟨ρ1,M1,it,e1,j1,iok,g2⟩⟩) fun v s1 h1=>thn h1 fun itv s2 h2=>?_
 obtain⟨it,fp,tn,Jt,H2,rfl,I2,Tn,st2,f2,ρ1,M1,itn,x1,j1,iok,g2⟩:=h2
 have hrun:∃δf lf Mf,cM fg ft fb itn (aQ own.length js δ) [] M1=some (.ok (δf,lf),Mf)∧Go X.mg E (Cv X.mg) Q ρ1 H2 (o.run lf) Mf:=by
  obtain⟨r,e,p⟩:=g2
  have e:DM.bind _ _ M1=some r:=e
  unfold DM.bind at e
  split at e
  ·cases e
  ·rename_i c M' em
   obtain⟨a,M'',_,z⟩:=oO em
   cases z
  ·rename_i a M' em
   obtain⟨a',M'',e1,z⟩:=oO em
   cases z
   exact⟨a.1,a.2,M',e1,r,e,p⟩
 obtain⟨δf,lf,Mf,hrun,g3⟩:=hrun
 unfold newList
 refine wpAny_newObj_type (pY ?_)
 have hlt:∀b∈fp,b<s2.heap.objs.size:=fun b hb=>by
  obtain⟨o,e,_⟩:=Tn.obj _ _ st2 b hb
  exact Heap.lt_size e
 dsimp only
 generalize hP:s2.heap.push { cls:=.type "list",dict:=none,data:=.seq ([]:List Value).toArray }=hp1
 have hCs:hp1.objs.size=s2.heap.objs.size+1:=by rw[←hP,Heap.size_push]
 have hCe:hp1.objs.size+1=(hp1.push { cls:=.type "dict",data:=.dict #[] }).objs.size:=by rw[Heap.size_push]
 have hC:s2.heap.objs.size≤hp1.objs.size:=by omega
 have hne:hp1.objs.size≠s2.heap.objs.size:=by omega
 have old1:∀b o,s2.heap.get? b=some o->hp1.get? b=some o:=fun b o e=>by rw[←hP];exact Heap.get?_push_of_some _ e
 have old:∀b o,s2.heap.get? b=some o->(pushCells (hp1.push { cls:=.type "dict",data:=.dict #[] }) scope.names).get? b=some o:=fun b o e=>pushCells_keeps _ _ _ _ (Heap.get?_push_of_some _ (old1 b o e))
 have new:∃n,(pushCells (hp1.push { cls:=.type "dict",data:=.dict #[] }) scope.names).get? s2.heap.objs.size=some { cls:=.type "list",data:=.seq #[] n }:=⟨_,pushCells_keeps _ _ _ _ (Heap.get?_push_of_some _ (by rw[←hP];exact Heap.get?_push_size _ rfl))⟩
 have ns:(pushCells (hp1.push { cls:=.type "dict",data:=.dict #[] }) scope.names).Ns hp1.objs.size fun _=>none:=(Heap.Ns.new hp1 (.type "dict")).keeps (pushCells_keeps _ _)
 have hfree:H2 s2.heap.objs.size=none:=I2.hok.fresh (Nat.le_refl _)
 have IC:=pQ (t':=s2.toks) T I2 f2 hlt old (Nat.le_refl _) hC hne hCe (Nat.le_trans hC (Nat.le_succ _)) (Nat.lt_succ_self _) (Nat.lt_succ_of_le hC) rfl new ns
 have OK:=IC.ok
 have fok:∀H',(∀b∈fp,H' b=none)->∀b∈fp,FpOk (X.bc pins scope (cellsFrom (hp1.objs.size+1) scope.names cl) (own++fr) fp hp1.objs.size s2 H2) [] H' b:=fun H' hn b hb=>by
  obtain⟨_,g2,g3,g4,g5,g6⟩:=f2 b hb
  refine⟨hn b hb,Nat.ne_of_lt (Nat.lt_of_lt_of_le (hlt b hb) hC),fun hm=>?_,.inl hb,(OK.exf b hb).2,fun p hp=>g6 p (by simpa using hp)⟩
  rcases List.mem_cons.mp (I2.stkSub _ hm) with z | z
  ·exact g2 z
  ·exact g3 z
 have fp1:∀b∈fp,upd H2 s2.heap.objs.size (.lst []) b=none:=fun b hb=>by rw[upd_ne (Nat.ne_of_lt (hlt b hb))];exact (f2 b hb).1
 have jb:=j1.begin hfree
 have nf:=j1.fresh hfree
 have st:Cst (X.bc pins scope (cellsFrom (hp1.objs.size+1) scope.names cl) (own++fr) fp hp1.objs.size s2 H2) [] s2.heap.objs.size (ρ1.hold s2.heap.objs.size) (upd H2 s2.heap.objs.size (.lst [])) (aQ own.length js δ) [] M1 fp
   { s2 with heap:=pushCells (hp1.push { cls:=.type "dict",data:=.dict #[] }) scope.names,toks:=s2.toks }:=
  ⟨_,_,_,[],IC,.refl (fun z=>nf (.inl z)),jb,(sG (ev.mono x1) _ _).kp (jL hfree),upd_same,.nil,fp1⟩
 have tn0:tn 0 (pushCells (hp1.push { cls:=.type "dict",data:=.dict #[] }) scope.names):=Tn.keep _ _ _ st2 (fun b _ o e=>old b o e)
 have loop:codeAny (model X.prog X.w) X.A (.compLoop (.ListComp elt (⟨t0,i0,f0,0⟩::gs) scope pos) 0 (.ref it) (.ref s2.heap.objs.size) (compEnvC scope (cellsFrom (hp1.objs.size+1) scope.names cl) hp1.objs.size X.env))
   (compPost (model X.prog X.w) X.A X.xe (some (assign (.Name x px) X.env)) (fun _ s'=>∃v H',Inv X pins (σ.set i (some v)) H' s'∧Q v H') (.ref s2.heap.objs.size) hp1.objs.size) { s2 with heap:=pushCells (hp1.push { cls:=.type "dict",data:=.dict #[] }) scope.names,toks:=s2.toks }:=by
  refine vL (X:=X.bc pins scope (cellsFrom (hp1.objs.size+1) scope.names cl) (own++fr) fp hp1.objs.size s2 H2) hc rfl (hturn _ _ _) (hW _ _) (hmono _ _) (hg ..) (ht ..) (hb pins (hp1.objs.size+1) fp hp1.objs.size s2 H2 s2.heap.objs.size) Tn iok (.head _) (jL hfree) fok st tn0 hrun fun s' c'=>?_
  obtain⟨σ4,H4,ρ4,ys,I4,x4,j4,ev4,ha4,cl4,fr4⟩:=c'.ex
  obtain⟨m4,hn4,_⟩:=I4.loc
  have hsb0:Heap.SameBut hp1.objs.size s'.heap s'.heap:=⟨rfl,fun _ _=>rfl⟩
  have un:=wD I4.base hsb0 hC
  have ok4:=sI I4.hok hsb0 I4.free
  have IO:Inv X pins σ H4 s':=I2.call' (s':=s') (ch:=fp) (I4.os) un ok4 I4.bare (fun b hb=>by
   obtain⟨_,g2,g3,g4,g5,g6⟩:=f2 b hb
   exact⟨g4,g2,g5,g6⟩)
  have fC:FpOk X pins H4 hp1.objs.size:=I2.fpOk hC I4.free
  obtain⟨fC1,fC2,fC3,fC4,fC5,fC6⟩:=fC
  show wpAny _ _ (assign (.Name x px) X.env (.ref s2.heap.objs.size)) _ _ s'
  refine wpAny_assign_Name (store_ok2 IO hN hi0 hx (v:=.ref s2.heap.objs.size) rfl (fun s'' I'' hsb=>?_) hf)
  obtain⟨a,sb,ha⟩:=hsb
  have nC:hp1.objs.size≠a:=by
   rcases ha with z | z
   ·rw[z];exact fC2
   ·exact fun e=>fC5 x a z e.symm
  refine⟨m4,hn4.sameBut sb nC,fun h' hsb'=>⟨.ref s2.heap.objs.size,H4,?_,o.fin hfree nf x4 j4 ha4 cl4 g3⟩⟩
  exact I''.turned (it:=hp1.objs.size) (t':=s''.toks) (fun b o hb e=>hsb'.extBut b o hb e) fC1 fC2 fC4 (fun y c e=>fC5 y c e) fC6
 show codeAny _ _ (.compStart _ 0 (.ref it) (.ref s2.heap.objs.size) (compEnvC scope (cellsFrom (hp1.objs.size+1) scope.names cl) hp1.objs.size X.env)) _ _
 exact p6 rfl rfl loop (Tn.self X.A 0 _ _ _ tn0 loop)⟩
theorem eX{X:Cx}{E:XK}{i:Nat}{x:Str}{px spos:Pos}{scope:Scope}{cl:List (Str×Addr)}{own:List Str}{js:List Nat}{fr:List Str}{elt t0 i0:Expr}{f0:List Expr}{pos:Pos}{fi:aa->DM Itn}{fg:D->aa->DM aa}{ft:aa->DM Bool}{fe:aa->DM D}
  (o:Out) (hN:X.N.Nodup) (hi0:X.N[i]?=some x) (hx:Loc X.env.scope x) (hc:X.calm=true) (T:CompG X scope cl own js fr) (hi:DI X E t0 i0 fi)
  (hg:∀pins m fp C s₂ H₂,DG (X.bc pins scope (cellsFrom m scope.names cl) (own++fr) fp C s₂ H₂) E0 t0 fg) (ht:∀pins m fp C s₂ H₂,DTs (X.bc pins scope (cellsFrom m scope.names cl) (own++fr) fp C s₂ H₂) E0 f0 ft)
  (he:∀pins m fp C s₂ H₂,DE (X.bc pins scope (cellsFrom m scope.names cl) (own++fr) fp C s₂ H₂) E0 elt fe)
  (hsw:swapsWith (.ListComp elt [⟨t0,i0,f0,0⟩] scope pos) (some (.Name x px)) spos.line X.env=pure true:=by rfl)
  (hs:∀y,foldedSetIterable i0 X.env y=pure y:=by intro _;rfl) (hf:X.fn x=true∨X.env.scope.names.lookup x=some .local:=by first | exact .inl rfl | exact .inr rfl | assumption) :
  DS X E (.Assign [.Name x px] (.ListComp elt [⟨t0,i0,f0,0⟩] scope pos) spos) (fun δ=>(fi δ>>=fun it=>dj (cM fg ft (bu fe) it (aQ own.length js δ) [])>>=fun p=>o.run p.2)>>=fun d=>pure (.nx (δ.set i (some d)))):=
 wO (bodyK:=fun Y acc=>oH elt (.ref acc) Y.env) (W:=fun Y acc P s=>wpAny (model Y.prog Y.w) Y.A (eval elt Y.env) (fun x s1=>wpAny (model Y.prog Y.w) Y.A (call (.builtin "list.append") [.ref acc,x]) (fun _ s2=>P s2) (fun _ _=>False) s1) (fun _ _=>False) s) o hN hi0 hx hc T hi
  (fun Y it acc=>yu ..) (fun Y acc=>vz) (fun Y acc P P' s hp h=>wpAny_mono h (fun x s1 h1=>wpAny_mono h1 (fun _ s2 h2=>hp _ h2) fun _ _ z=>z) fun _ _ z=>z) hg ht (fun pins m fp C s₂ H₂ acc=>sE rfl (he ..)) hsw hs hf
end L3
namespace L3
open PySem PySem.Spec L2
structure OCls(K:PySem.W.Frag)(mg:Str->Option Value)(c:Str)(C:Addr)(fs:List Str):Prop where
 at_:mg c=some (.ref C)
 cls:L2.Cls K C
 no:∀f∈fs,NoAttr K C f
theorem nG {mg:Str->Option Value}{ρ:Rh}{H:Hp}{f:Str}:∀ {ns:List Str}{xs:List V}{ds:List D}{d:D},Cvs mg ρ H xs ds->(ns.zip ds).lookup f=some d->∃ v,(ns.zip xs).lookup f=some v∧Cv mg ρ H v d
 |[],_,_,_,_,e=>by simp at e
 |n::ns,_,_,_,.nil,e=>by simp at e
 |n::ns,_,_,d,.cons (v:=v) c cs,e=>by
   rw[List.zip_cons_cons,List.lookup_cons] at e ⊢
   split at e
   ·cases e;exact⟨v,rfl,c⟩
   ·exact nG cs e
def qH (c f:Str):D->Mo->Option D
 |.obj k ns vs,_=>if k=c then (ns.zip vs).lookup f else none
 |.ref n,M=>match M[n]? with
   |some (.ins k ns vs)=>if k=c then (ns.zip vs).lookup f else none
   |_=>none
 |_,_=>none
theorem u9 {X:Cx}{E:XK}{K:PySem.W.Frag}{mg:Str->Option Value}{c f:Str}{C:Addr}{fs:List Str}{e:Expr}{fe:aa->DM D}{pos:Pos} (O:OCls K mg c C fs) (hf:f∈fs) (he:DE X E e fe)
  (hb:attributeBase e f X.env (eval e X.env)=eval e X.env:=by rfl) (hK:X.K=K:=by rfl) (hM:X.mg=mg:=by rfl):DE X E (.Attribute e f pos) (fun δ=>fe δ>>=fun x=>rd (qH c f x)):=by
 subst hK hM
 refine⟨PE.mono (pe_fld he.h hb) fun σ H Q h=>?_⟩
 obtain⟨ρ,δ,M,ev,j,g1⟩:=h
 refine⟨ρ,δ,M,ev,j,g1.bind fun ρ1 H1 M1 x dx e1 j1 c1 g2=>?_⟩
 obtain⟨d,ed,q⟩:=g2.rd
 unfold qH at ed
 split at ed
 ·split at ed
  ·rename_i hk
   subst hk
   cases c1 with
   |obj n m h l cs=>
     obtain⟨v,hv,cv⟩:=nG cs ed
     rw[O.at_] at m;cases m
     exact⟨_,_,_,_,v,rfl,h,O.cls,O.no f hf,hv,q ρ1 H1 _ .refl j1 cv⟩
  ·cases ed
 ·split at ed
  ·split at ed
   ·rename_i hm hk
    subst hk
    cases c1 with
    |ref hn=>
      obtain⟨C',dx',xs,m,h,l,cs⟩:=j1.obj _ _ _ hn hm
      obtain⟨v,hv,cv⟩:=nG cs ed
      rw[O.at_] at m;cases m
      exact⟨_,_,_,_,v,rfl,h,O.cls,O.no f hf,hv,q ρ1 H1 _ .refl j1 cv⟩
   ·cases ed
  ·cases ed
 ·cases ed
def qi:List D->Mo->Option (List D)
 |[.int j],_=>if -(2^62)≤j∧j≤2^20 then some ((List.range j.toNat).map nD) else none
 |_,_=>none
theorem rZ{mg:Str->Option Value}{ρ:Rh}{H:Hp}:∀l:List Nat,Cvs mg ρ H (l.map fun i:Nat=>V.int (i:Int)) (l.map nD)
 |[]=>.nil
 |n::l=>.cons (.int _) (rZ l)
section
variable{X:Cx}{E:XK}{a:Expr}{fa:aa->DM (List D)}{p1 p2 pos1 pos2:Pos}
theorem pR (hc:X.calm=true) (hmL:X.mg "list"=none) (hm:X.mg "range"=none) (ha:DA X E [a] fa) (hgL:Gl X "list":=by rfl) (hg:Gl X "range":=by rfl) (hs:notStar a=true:=by rfl) :
  DE X E (.Call (.Name "list" p1) [.Call (.Name "range" p2) [a] [] pos2] [] pos1) (fun δ=>fa δ>>=fun l=>rd (fun M=>(qi l M).map D.lst)):=⟨PE.mono (vQ hc hgL hmL hg hm ha.h.h hs) fun σ H Q h=>by
 obtain⟨ρ,δ,M,ev,j,g1⟩:=h
 refine⟨ρ,δ,M,ev,j,g1.bind fun ρ1 H1 M1 xs ds e1 j1 c1 g2=>?_⟩
 obtain⟨d,ed,q⟩:=g2.rd
 obtain⟨l,el,rfl⟩:=Option.map_eq_some_iff.mp ed
 unfold qi at el
 split at el
 ·split at el
  ·rename_i hb
   cases el
   obtain⟨v,rfl,k⟩:=c1.one
   cases k
   exact⟨_,rfl,hb.2,hb.1,fun p hp=>q ρ1 _ _ (.lay hp) (j1.lay _ hp) (.lst (j1.fresh hp) upd_same (rZ _))⟩
  ·cases el
 ·cases el⟩
end
section
variable{X:Cx}{E:XK}
def ut:List D->Mo->Option D
 |[.bl b],_=>some (.int (if b then 1 else 0))
 |_,_=>none
theorem uY:CallR X (.type "int") (fun xs H Q=>∃ b,xs=[.bl b]∧Q (.int (if b then 1 else 0)) H):=by
 intro pins s σ H xs us Q I rs h
 obtain⟨b,rfl,q⟩:=h
 cases rs with
 |cons r rr=>
   cases rr
   cases r
   exact call_int_bool ⟨.int (if b then 1 else 0),H,I.tok _,⟨_,rfl⟩,q⟩
theorem oE:CallD X E (.type "int") (fun l=>rd (ut l)):=CallD.of uY fun vs H Q ρ M ds d j c e q=>by
 unfold ut at e
 split at e
 ·cases e
  obtain⟨v,rfl,k⟩:=c.one
  cases k
  exact⟨_,rfl,q ρ H _ .refl j (.int _)⟩
 ·cases e
end
theorem fU {fg:D->aa->DM aa}{ft:aa->DM Bool}{fb:aa->List D->DM (aa×List D)} (I:Nat->aa->List D->Mo->Prop):∀ (ds:List D) (i:Nat) (δ:aa) (l:List D) (M:Mo),I i δ l M->
  (∀j d δ l M,ds[j]?=some d->I (i+j) δ l M->Rn (fg d δ>>=fun δ1=>ft δ1>>=fun b=>if b then fb δ1 l else Pure.pure (δ1,l)) M fun p M'=>I (i+j+1) p.1 p.2 M')->Rn (bx fg ft fb ds δ l) M fun p M'=>I (i+ds.length) p.1 p.2 M'
 |[],i,δ,l,M,h,_=>Rn.pure h
 | d::ds,i,δ,l,M,h,st=>by
   have s:=st 0 d δ l M rfl h
   have e:bx fg ft fb (d::ds) δ l=(fg d δ>>=fun δ1=>ft δ1>>=fun b=>if b then fb δ1 l else Pure.pure (δ1,l))>>=fun p=>bx fg ft fb ds p.1 p.2:=by
    rw[bw]
    show (fg d δ>>=fun δ1=>ft δ1>>=fun b=>(if b then fb δ1 l else Pure.pure (δ1,l))>>=fun p=>bx fg ft fb ds p.1 p.2)=_
    congr 1
    funext δ1
    rw[bw]
   rw[e]
   refine Rn.bind s fun p M' h'=>?_
   have ih:=fU I ds (i+1) p.1 p.2 M' h' (fun j d δ l M hj hI=>by
    have:=st (j+1) d δ l M (by simpa using hj) (by rw[show i+(j+1)=i+1+j by omega];exact hI)
    rw[show i+1+j+1=i+(j+1)+1 by omega];exact this)
   rw[show i+(d::ds).length=i+1+ds.length by simp;omega]
   exact ih
theorem jn{α:Type}{m:DM α}{M:Mo}{Q:α->Mo->Prop}(h:Rn m M Q):Rn (dj m) M Q:=by
 obtain⟨a,M',e,q⟩:=h
 exact⟨a,M',by unfold dj;rw[e],q⟩
theorem xj{n:Nat}{M:Mo}{β:Type}{k:D->DM β}{Q:β->Mo->Prop}(hn:n≤1000)(q:Rn (k (.ref M.length)) (M++[.lst ((List.replicate n 0).map nD)]) Q):Rn (Ar (.lst [.int 0]) (nD n)>>=k) M Q:=by
 have e:nJ (.lst [.int 0]) (nD n) M=some ((List.replicate n 0).map nD):=by
  show uG [.int 0] (n:Int)=_
  unfold uG
  rw[if_pos (decide_eq_true ⟨by omega,by omega,by show _≤2^24;simp;omega⟩)]
  congr 1
  simp[List.flatten_replicate_singleton,nD]
 show Rn ((rd (nJ (.lst [.int 0]) (nD n))>>=dX)>>=k) M Q
 rw[bw]
 refine Rn.bindRd _ e ?_
 exact Rn.dX (by simp;omega) q
end L3
namespace L3
open PySem PySem.Spec L2
open PyProof.Rows hiding St
def putN(f:Str):List Str->List Str
 |[]=>[f]
 |g::r=>if g=f then g::r else g::putN f r
def g8{α:Type}(f:Str)(v:α):List Str->List α->List α
 |[],_=>[v]
 |g::r,x::xs=>if g=f then v::xs else x::g8 f v r xs
 |_::_,[]=>[]
theorem qX (f:Str) (v:V):∀ (ns:List Str) (xs:List V),ns.length=xs.length->putF f v (ns.zip xs)=(putN f ns).zip (g8 f v ns xs)
 |[],[],_=>rfl
 |g::r,x::xs,h=>by
   show putF f v ((g,x)::r.zip xs)=_
   unfold putF putN g8
   by_cases e:g=f
   ·rw[if_pos e,if_pos e,if_pos e];rfl
   ·rw[if_neg e,if_neg e,if_neg e,qX f v r xs (by simpa using h)];rfl
theorem qY {α:Type} (f:Str) (v:α):∀ (ns:List Str) (xs:List α),ns.length=xs.length->(putN f ns).length=(g8 f v ns xs).length
 |[],[],_=>rfl
 |g::r,x::xs,h=>by
   unfold putN g8
   by_cases e:g=f
   ·rw[if_pos e,if_pos e];simpa using h
   ·rw[if_neg e,if_neg e,List.length_cons,List.length_cons,qY f v r xs (by simpa using h)]
theorem Cvs.put {mg:Str->Option Value}{ρ:Rh}{H:Hp}{f:Str}{v:V}{d:D} (c:Cv mg ρ H v d):∀ (ns:List Str) {xs:List V}{ds:List D},Cvs mg ρ H xs ds->Cvs mg ρ H (g8 f v ns xs) (g8 f d ns ds)
 |[],_,_,_=>.cons c .nil
 |g::r,_,_,.nil=>.nil
 |g::r,_,_,.cons h t=>by
   unfold g8
   by_cases e:g=f
   ·rw[if_pos e,if_pos e];exact .cons c t
   ·rw[if_neg e,if_neg e];exact .cons h (Cvs.put c r t)
def qm (c f:Str) (o d:D):DM Unit:=fun M=>match o with
 |.ref n=>match M[n]? with
   |some (.ins k ns vs)=>if k=c∧ns.length=vs.length∧ns.length<1000 then some (.ok (),M.set n (.ins k (putN f ns) (g8 f d ns vs))) else none
   |_=>none
 |_=>none
section
variable{X:Cx}{E:XK}
theorem vm {K:PySem.W.Frag}{mg:Str->Option Value}{c f:Str}{C:Addr}{fs:List Str}{o value:Expr}{fo fv:aa->DM D}{pos pos':Pos} (O:OCls K mg c C fs) (hf:f∈fs) (ho:DE X E o fo) (hv:DE X E value fv)
  (hs:swapsWith value (some (.Attribute o f pos')) pos.line X.env=pure false:=by rfl) (hK:X.K=K:=by rfl) (hM:X.mg=mg:=by rfl) :
  DS X E (.Assign [.Attribute o f pos'] value pos) (fun δ=>fv δ>>=fun d=>fo δ>>=fun o=>qm c f o d>>=fun _=>pure (.nx δ)):=by
 subst hK hM
 refine⟨PS.mono (ps_fld ho.h hv.h hs) fun D σ H h=>?_⟩
 obtain⟨ρ,δ,M,ev,j,g1⟩:=h
 refine⟨ρ,δ,M,ev,j,g1.bind fun ρ1 H1 M1 y dy e1 j1 c1 g2=>⟨ρ1,δ,M1,ev.mono e1,j1,g2.bind fun ρ2 H2 M2 x dx e2 j2 c2 g3=>?_⟩⟩
 obtain⟨r,e,p⟩:=g3
 have e:DM.bind _ _ M2=some r:=e
 unfold DM.bind qm at e
 cases dx with
 | ref n=>
   dsimp only at e
   cases c2 with | ref hn=>
   rename_i a
   cases hm:M2[n]? with
   |none=>rw[hm] at e;cases e
   | some u=>
     rw[hm] at e
     cases u with
     |lst l=>cases e
     |dic ks l=>cases e
     | ins k ns vs=>
       dsimp only at e
       split at e
       ·cases e
       ·rename_i he;split at he<;>cases he
       ·rename_i he
        split at he
        ·rename_i hk
         obtain⟨rfl,hl,hz⟩:=hk
         cases he
         cases e
         obtain⟨C',dx',xs,m,hx,l,cs⟩:=j2.obj _ _ _ hn hm
         rw[O.at_] at m;cases m
         have c1':=c1.mono e2
         have x:Ext ρ2 H2 ρ2 (upd H2 a (.ins C dx' (putF f y (ns.zip xs)))):=.upd (List.mem_of_getElem? hn)
         refine⟨a,C,dx',_,rfl,hx,O.cls,O.no f hf,?_,?_⟩
         ·rw[List.length_zip];omega
         refine p ρ2 _ σ x (j2.upd hn ?_) (((ev.mono e1).mono e2).mono x)
         refine⟨C,dx',g8 f y ns xs,O.at_,by rw[upd_same,qX f y ns xs l],qY f y ns xs l,?_⟩
         exact (Cvs.put c1' ns cs).mono x
        ·cases he
 |_=>cases e
end
structure MethD(P:Program)(w:World)(K:PySem.W.Frag)(mg:Str->Option Value)(base:Heap)(k:Nat)(c x qual:Str)(st:Stmt)(ps:List Str)(F:List D->DM D):Prop where
 ex:∃C f fd,mg c=some (.ref C)∧FnOk P w K mg base (dW P w) k f fd ps (tR mg F)∧Fun K x qual st f fd∧PySem.W.findIn K (.ref C) x=some (some (.ref f))∧PySem.W.isFn K (.ref f)=true∧L2.Cls K C
section
variable{P:Program}{w:World}{K:PySem.W.Frag}{mg:Str->Option Value}{base:Heap}{k:Nat}{C:Addr}{c x qual:Str}{N ps:List Str}{st:Stmt}{fb:aa->DM Fl}{f:Addr}{fd:FuncData}{is:List Int}
theorem Dw (F:Fun K x qual st f fd) (S:FnScope N ps (defScope st))
  (hbody:∀(f:Addr) (cdv:Value) (A:Around) (outer:List Env) (s:Shared) (H:Hp) (E:XK),Room k (A.deeper (envOfC qual (defScope st) s.heap.objs.size f cdv))->
    DSs (gY P w K mg base N qual (defScope st) f cdv A outer s H E) E (defBody st) fb):FnOk P w K mg base (dW P w) (k+1) f fd ps (tR mg (aP ps.length N.length fb)):=by
 refine Dy F S (fun vs H Q E h=>?_) fun cdv A outer s H vs Q E hr h=>?_
 ·obtain⟨ρ,M,ds,c,j,g⟩:=h
  rw[c.len];exact (bF.aP g).1
 obtain⟨ρ,M,ds,c,j,g⟩:=h
 exact⟨_,(hbody f cdv A outer s H E hr).h,ρ,_,M,nA c,j,(bF.aP g).2⟩
theorem MethAt.okD (T:MethAt K C x qual st) (m:mg c=some (.ref C)) (cl:L2.Cls K C) (S:FnScope N ps (defScope st))
  (hbody:∀(f:Addr) (cdv:Value) (A:Around) (outer:List Env) (s:Shared) (H:Hp) (E:XK),Room k (A.deeper (envOfC qual (defScope st) s.heap.objs.size f cdv))->
    DSs (gY P w K mg base N qual (defScope st) f cdv A outer s H E) E (defBody st) fb):MethD P w K mg base (k+1) c x qual st ps (aP ps.length N.length fb):=by
 obtain⟨f,fd,F,a,n⟩:=T.ex
 exact⟨C,f,fd,m,Dw F S hbody,F,a,n,cl⟩
end
structure ClsD(P:Program)(w:World)(K:PySem.W.Frag)(mg:Str->Option Value)(base:Heap)(k:Nat)(c:Str)(F:List D->DM D):Prop where
 ex:∃C ps sp,MethC P w K mg base k C "__init__" ps sp∧PySem.W.makesIn K C=true∧PySem.W.keepIn K (.ref C)=true∧mg c=some (.ref C) ∧
  ∀ρ M H vs ds Q E,Cvs mg ρ H vs ds->J mg ρ M H->Go mg E (Cv mg) Q ρ H (F ds) M->∀x dx,H x=none->H dx=none->dx≠x->sp (.ref x::vs) (upd (upd H dx (.own x)) x (.ins C dx [])) (fun v H2=>v=.non∧Q (.ref x) H2) E
theorem yC{X:Cx}{E:XK}{j k:Nat}{c:Str}{F:List D->DM D}{p pos:Pos}{e:Expr}{es:List Expr}{fs:aa->DM (List D)}(T:ClsD X.prog X.w X.K X.mg X.base j c F)(hr:Room k X.A)(hx:Passes (dW X.prog X.w) X E)(ha:DA X E (e::es) fs)(hjk:j+1≤k:=by decide)(hg:Gl X c:=by rfl)(hdb:(c==("__debug__":Str))=false:=by decide)
  (he:notStar e=true:=by rfl) (hpl:(backTo pos (starEach es X.env)).any (·.1)=false:=by rfl) :
  DE X E (.Call (.Name c p) (e::es) [] pos) (fun δ=>fs δ>>=F):=by
 obtain⟨C,ps,sp,G,mk,kc,m,h⟩:=T.ex
 refine⟨PE.mono (xG G mk kc m hr hx ha.h hjk hg hdb he hpl) fun σ H Q z=>?_⟩
 obtain⟨ρ,δ,M,ev,j,g1⟩:=z
 refine⟨ρ,δ,M,ev,j,g1.bind fun ρ1 H1 M1 xs dxs e1 j1 c1 g2=>fun x dx h1 h2 h3=>?_⟩
 rw[List.append_nil]
 exact h ρ1 M1 H1 xs dxs Q E c1 j1 g2 x dx h1 h2 h3
section
variable{mg:Str->Option Value}{ρ:Rh}{H:Hp}{k:Nat}{M':Mo}
mutual
theorem Cv.fz(hk:ρ.st.length=k):∀{v:V}{d:D},Cv mg ρ H v d->Fz M' k d d
 |_,_,.non=>.non
 |_,_,.bl b=>.bl b
 |_,_,.int i=>.int i
 |_,_,.str x=>.str x
 |_,_,.tup n h c=>.tup (Cvs.fz hk c)
 |_,_,.lst n h c=>.lst (Cvs.fz hk c)
 |_,_,.dic n h l c=>.dic (Cvs.fz hk c)
 |_,_,.obj n m h l c=>.obj (Cvs.fz hk c)
 |_,_,.scr n h=>.scr _
 |_,_,.ref h=>.old (by rw[←hk];exact (List.getElem?_eq_some_iff.mp h).1)
 |_,_,.cls h=>.cls _
 |_,_,.ty t=>.ty t
 |_,_,.exn a=>.exn a
theorem Cvs.fz(hk:ρ.st.length=k):∀{vs:List V}{ds:List D},Cvs mg ρ H vs ds->Fzs M' k ds ds
 |_,_,.nil=>.nil
 |_,_,.cons h t=>.cons (Cv.fz hk h) (Cvs.fz hk t)
end
theorem Cvs.fz_mem {k:Nat} (hk:ρ.st.length=k):∀ {vs:List V}{ds:List D},Cvs mg ρ H vs ds->∀ d∈ds,Fz M' k d d
 |_,_,.nil,d,h=>by cases h
 |_,_,.cons a t,d,h=>by
   rcases List.mem_cons.mp h with rfl | h
   ·exact a.fz hk
   ·exact Cvs.fz_mem hk t d h
theorem vB{M':Mo}{k:Nat}:∀{ds:List D},(∀d∈ds,Fz M' k d d)->Fzs M' k ds ds
 |[],_=>.nil
 |d::ds,h=>.cons (h d (by simp)) (vB fun e he=>h e (by simp[he]))
theorem J.fz{M:Mo}{o:DO}(j:J mg ρ M H):Dd (M++[o]) M.length M:=by
 refine⟨rfl,fun n u h=>?_⟩
 have hn:=(List.getElem?_eq_some_iff.mp h).1
 refine⟨u,by rw[List.getElem?_append_left hn];exact h,?_⟩
 have hl:n<ρ.st.length:=by rw[j.len];exact hn
 have c:=j.obj n ρ.st[n] u (List.getElem?_eq_getElem hl) h
 cases u with
 |lst l=>obtain⟨xs,_,c⟩:=c;exact c.fz j.len
 |dic ks l=>obtain⟨xs,_,_,c⟩:=c;exact⟨rfl,c.fz j.len⟩
 |ins cc ns l=>obtain⟨C,dx,xs,_,_,_,c⟩:=c;exact⟨rfl,rfl,c.fz j.len⟩
end
def zL(c:Str)(Fi:List D->DM D)(ds:List D)(M:Mo)(r':R D×Mo):Prop:=
 (∃ns vs,Fi (.ref M.length::ds) (M++[.ins c [] []])=some (.ok .non,M++[.ins c ns vs])∧(∀d∈vs,d∈ds∨∃i,d=.int i)∧r'=(.ok (.obj c ns vs),M)) ∨
 (∃e o,Fi (.ref M.length::ds) (M++[.ins c [] []])=some (.exc e,M++[o])∧r'=(.exc e,M))
theorem Dv{P:Program}{w:World}{K:PySem.W.Frag}{mg:Str->Option Value}{base:Heap}{k:Nat}{c qual:Str}{st:Stmt}{ps:List Str}{Fi F':List D->DM D}(T:MethD P w K mg base k c "__init__" qual st ps Fi)
  (hb:∀(kV doc pm:Value) (an:Option Addr) (cdv ct:Value) (us:List Value),us.length=ps.length->bindArgs (PySem.W.fnOf "__init__" qual (defArgs st) (defBody st) (defScope st) .none kV doc pm an cdv ct) ⟨us,[]⟩=pure (ps.zip us))
  (hm:∀C,mg c=some (.ref C)->PySem.W.makesIn K C=true∧PySem.W.keepIn K (.ref C)=true) (hf:∀ds M r',F' ds M=some r'->zL c Fi ds M r'):ClsD P w K mg base k c F':=by
 obtain⟨C,f,fd,mc,G,B,a,n,cl⟩:=T.ex
 refine⟨C,ps,_,⟨f,fd,G,B.binds hb,B.kp,a,n⟩,(hm C mc).1,(hm C mc).2,mc,fun ρ M H vs ds Q E cv j g x dx hx hdx hne=>?_⟩
 obtain⟨r',e,p⟩:=g
 have hx':upd H dx (.own x) x=none:=by rw[upd_ne (fun z=>hne z.symm)];exact hx
 have x1:Ext ρ H ρ (upd H dx (.own x)):=.lay hdx
 have j1:=j.lay (.own x) hdx
 have x2:Ext ρ (upd H dx (.own x)) (ρ.put x) (upd (upd H dx (.own x)) x (.ins C dx [])):=.put hx'
 have j2:J mg (ρ.put x) (M++[.ins c [] []]) (upd (upd H dx (.own x)) x (.ins C dx [])):=j1.put hx' ⟨C,dx,[],mc,upd_same,rfl,.nil⟩
 have hput:(ρ.put x).st[M.length]?=some x:=by
  show (ρ.st++[x])[M.length]?=some x
  rw[←j.len,List.getElem?_append_right (Nat.le_refl _)];simp
 refine⟨ρ.put x,M++[.ins c [] []],.ref M.length::ds,.cons (.ref hput) (cv.mono (x1.trans x2)),j2,?_⟩
 have sb:∀{ρ2 H2},Ext (ρ.put x) (upd (upd H dx (.own x)) x (.ins C dx [])) ρ2 H2->Sub ρ ρ2 M.length:=fun {ρ2 H2} y=>by
  obtain⟨τ,ht⟩:=y.pre
  exact⟨⟨[x]++τ,by rw[ht];show (ρ.st++[x])++τ=_;simp⟩,y.vo,j.len⟩
 have ex:∀{ρ2 H2},Ext (ρ.put x) (upd (upd H dx (.own x)) x (.ins C dx [])) ρ2 H2->Ext ρ H ρ H2:=fun {ρ2 H2} y=>⟨⟨[],by simp⟩,rfl,fun a h n=>absurd h n,fun b o hb hn=>y.keep b o (by
  have nx:b≠x:=ne_of_none hb hx
  have ndx:b≠dx:=ne_of_none hb hdx
  rw[upd_ne nx,upd_ne ndx];exact hb) (fun z=>by
  rcases List.mem_append.mp z with z | z
  ·exact hn z
  ·exact ne_of_none hb hx (List.mem_singleton.mp z))⟩
 rcases hf ds M r' e with ⟨ns,vs',e2,hv,rfl⟩ | ⟨er,o,e2,rfl⟩
 ·refine⟨_,e2,fun ρ2 H2 b y j3 cb=>?_⟩
  cases cb
  refine⟨rfl,p ρ H2 (.ref x) (ex y) (j3.freeze (sb y) j.len j.fz) ?_⟩
  have h3:ρ2.st[M.length]?=some x:=y.at hput
  obtain⟨C',dx',xs,m',hx3,l,cs⟩:=j3.obj M.length x (.ins c ns vs') h3 (by simp)
  refine .obj (j.fresh hx) m' hx3 l (Cvs.freeze (sb y) j3 (vB fun d hd=>?_) cs)
  rcases hv d hd with h | ⟨i,rfl⟩
  ·exact cv.fz_mem j.len d h
  ·exact .int i
 ·refine⟨_,e2,fun ρ2 H2 C2 y j3 m2=>?_⟩
  exact p ρ H2 C2 (ex y) (j3.freeze (sb y) j.len j.fz) m2
end L3
namespace L3
open PySem PySem.Spec L2
theorem qP{α:Type}{l:List α}(h:l.length=1):∃a,l=[a]:=match l,h with | [a],_=>⟨a,rfl⟩
theorem DK{α:Type}{l:List α}(h:l.length=2):∃a b,l=[a,b]:=match l,h with | [a,b],_=>⟨a,b,rfl⟩
theorem DN{α:Type}{l:List α}(h:l.length=3):∃a b c,l=[a,b,c]:=match l,h with | [a,b,c],_=>⟨a,b,c,rfl⟩
theorem DQ{α:Type}{l:List α}(h:l.length=4):∃a b c d,l=[a,b,c,d]:=match l,h with | [a,b,c,d],_=>⟨a,b,c,d,rfl⟩
def uo:D->DM D
 |.int n=>if 0≤n∧n<2^63 then pure (.int n) else stuck
 |_=>stuck
def qQ(c:Str)(F:List D->DM D):List D->DM D
 |[.obj k ns vs]=>if k=c then F [.obj k ns vs]>>=uo else stuck
 |l=>rd (fZ l)
theorem iJ {X:Cx}{E:XK}{j k:Nat}{c qual:Str}{st:Stmt}{ps:List Str}{F:List D->DM D} (T:MethD X.prog X.w X.K X.mg X.base j c "__len__" qual st ps F) (hr:Room k X.A) (hx:Passes (dW X.prog X.w) X E)
  (hb:∀(kV doc pm:Value) (an:Option Addr) (cdv ct:Value) (us:List Value),us.length=ps.length->bindArgs (PySem.W.fnOf "__len__" qual (defArgs st) (defBody st) (defScope st) .none kV doc pm an cdv ct) ⟨us,[]⟩=pure (ps.zip us))
  (hjk:j+1≤k:=by decide):CallD X E (.builtin "len") (qQ c F):=by
 obtain⟨C,f,fd,mc,G,B,a,n,cl⟩:=T.ex
 have MC:MethC X.prog X.w X.K X.mg X.base j C "__len__" ps (tR X.mg F):=⟨f,fd,G,B.binds hb,B.kp,a,n⟩
 intro pins s σ H vs us Q I rs q
 obtain⟨ρ,M,ds,j,cv,go⟩:=q
 unfold qQ at go
 split at go
 ·rename_i k' ns ws
  split at go
  ·rename_i hk
   subst hk
   obtain⟨v,rfl,kv⟩:=cv.one
   cases kv with
   | obj hn m hh hl cs=>
     rw[mc] at m;cases m
     refine uZ MC (hr.mono hjk) hx pins s σ H _ us Q I rs ⟨_,_,_,rfl,hh,ρ,M,_,cv,j,go.bind fun ρ1 H1 M1 b d e1 j1 c1 g2=>?_⟩
     unfold uo at g2
     split at g2
     ·split at g2
      ·rename_i hn2
       cases c1
       exact⟨_,rfl,hn2,g2.pure ρ1 H1 _ .refl j1 (.int _)⟩
      ·obtain⟨r,e,_⟩:=g2;cases e
     ·obtain⟨r,e,_⟩:=g2;cases e
  ·obtain⟨r,e,_⟩:=go;cases e
 ·exact call_lenD pins s σ H vs us Q I rs ⟨ρ,M,_,j,cv,go⟩
end L3
namespace L2
open PySem PySem.Spec PyProof.Rows
end L2
namespace L3
open PySem PySem.Spec L2
end L3
namespace L2
open PySem PySem.Spec PyProof.Rows
def CT(i j k:Nat)(ta:TA):TS:=fun D σ H=>ta σ H fun vs H1=>∃v w z,vs=[v,w,z]∧D.nx (((σ.set i (some v)).set j (some w)).set k (some z)) H1
theorem zp {X:Cx}{i j k:Nat}{x y z:Str}{a b c:Expr}{ta:TA}{px py pz pt pos:Pos}{kt k2 pt2} (hc:X.calm=true) (hN:X.N.Nodup) (hi:X.N[i]?=some x) (hj:X.N[j]?=some y) (hk:X.N[k]?=some z) (hij:i≠j) (hik:i≠k) (hjk:j≠k)
  (hx:X.env.scope.names.lookup x=some .local) (hy:X.env.scope.names.lookup y=some .local) (hz:X.env.scope.names.lookup z=some .local) (ha:PA X [a,b,c] ta)
  (hw:swappedStores [.Tuple [.Name x px,.Name y py,.Name z pz] kt pt] (.Tuple [a,b,c] k2 pt2) X.env=pure (some [x,y,z]))
  (hs:swapsWithSole [.Tuple [.Name x px,.Name y py,.Name z pz] kt pt] (.Tuple [a,b,c] k2 pt2) pos.line X.env=pure false:=by rfl) :
  PS X (.Assign [.Tuple [.Name x px,.Name y py,.Name z pz] kt pt] (.Tuple [a,b,c] k2 pt2) pos) (CT i j k ta):=by
 intro pins s σ H D I h
 rw[exec_Assign_arm]
 refine wpAny_bind (wpAny_standAt ?_)
 rw[hs]
 refine wpAny_bind (wpAny_pure ?_)
 rw[if_neg (by decide)]
 refine wpAny_bind (Tuple_ (thn (ha _ pins s σ H _ I h) fun us s1 ⟨vs,H1,I1,r1,q1⟩=>?_))
 obtain⟨v,w,w3,e1,q1⟩:=q1
 subst e1
 obtain ⟨u1,u2,u3,rfl,rv,rw',rz⟩:∃ u1 u2 u3,us=[u1,u2,u3]∧RelV v u1∧RelV w u2∧RelV w3 u3:=by
  cases r1 with
  | cons p q=>
    cases q with
    | cons p' q'=>
      cases q' with
      |cons p2 q2=>
        cases q2
        exact⟨_,_,_,rfl,p,p',p2⟩
 refine wpAny_newObj_type ?_ (by show 3≤sizeLine;decide)
 have I2:Inv X pins σ H1 { s1 with heap:=s1.heap.push { cls:=.type "tuple",data:=.seq [u1,u2,u3].toArray } }:=I1.kept (t':=s1.toks) fun b o e=>Heap.get?_push_of_some _ e
 rw[hw]
 refine wpAny_bind (wpAny_pure ?_)
 show wpAny (model X.prog X.w) X.A (do rule "assign.swapped-stores";let items ←unpackItems (.ref s1.heap.objs.size) 3 none;assignInOrder [fun v=>bindName X.env z v,fun v=>bindName X.env y v,fun v=>bindName X.env x v] items.reverse;pure Flow.next) _ _ _
 refine wpAny_bind (wpAny_rule (wpAny_bind (unpackItems_tuple (items:=#[u1,u2,u3]) (I.ok.hd hc) (IsTup.new s1.heap _) fun h' hx'=>?_)))
 have I3:=I2.kept (h':=h') (t':=s1.toks) fun b o e=>hx' b o (Nat.ne_of_lt (Heap.lt_size e)) e
 show wpAny _ _ (assignInOrder [fun v=>bindName X.env z v,fun v=>bindName X.env y v,fun v=>bindName X.env x v] [u3,u2,u1]>>=fun _=>pure Flow.next) _ _ _
 refine wpAny_bind (assignInOrder_cons (wpAny_bindName (store_ok I3 hN hk (.inl hz) rz (fun s2 I4=>?_) (.inr hz))))
 refine assignInOrder_cons (wpAny_bindName (store_ok I4 hN hj (.inl hy) rw' (fun s3 I5=>?_) (.inr hy)))
 refine assignInOrder_cons (wpAny_bindName (store_ok I5 hN hi (.inl hx) rv (fun s4 I6=>assignInOrder_nil (wpAny_pure ?_)) (.inr hx)))
 have e:((σ.set k (some w3)).set j (some w)).set i (some v)=((σ.set i (some v)).set j (some w)).set k (some w3):=by
  rw[List.set_comm _ _ (Ne.symm hjk),List.set_comm _ _ (Ne.symm hik),List.set_comm _ _ (Ne.symm hij)]
 rw[e] at I6
 exact⟨_,H1,I6,q1⟩
end L2
namespace L3
open PySem PySem.Spec L2
def xX(i j k:Nat)(fa:aa->DM (List D)):aa->DM Fl:=fun δ=>fa δ>>=fun l=>match l with
 |[v,w,z]=>pure (.nx (((δ.set i (some v)).set j (some w)).set k (some z)))
 |_=>stuck
@[simp] theorem Fj(i j k:Nat)(fa:aa->DM (List D))(δ:aa):xX i j k fa δ=fa δ>>=fun l=>match l with
 |[v,w,z]=>Pure.pure (.nx (((δ.set i (some v)).set j (some w)).set k (some z)))
 |_=>stuck:=id rfl
theorem yG {X:Cx}{E:XK}{i j k:Nat}{x y z:Str}{a b c:Expr}{fa:aa->DM (List D)}{px py pz pt pos:Pos}{kt k2 pt2} (hc:X.calm=true) (hN:X.N.Nodup) (hi:X.N[i]?=some x) (hj:X.N[j]?=some y) (hk:X.N[k]?=some z) (hij:i≠j) (hik:i≠k) (hjk:j≠k)
  (hx:X.env.scope.names.lookup x=some .local) (hy:X.env.scope.names.lookup y=some .local) (hz:X.env.scope.names.lookup z=some .local) (ha:DA X E [a,b,c] fa)
  (hw:swappedStores [.Tuple [.Name x px,.Name y py,.Name z pz] kt pt] (.Tuple [a,b,c] k2 pt2) X.env=pure (some [x,y,z]))
  (hs:swapsWithSole [.Tuple [.Name x px,.Name y py,.Name z pz] kt pt] (.Tuple [a,b,c] k2 pt2) pos.line X.env=pure false:=by rfl) :
  DS X E (.Assign [.Tuple [.Name x px,.Name y py,.Name z pz] kt pt] (.Tuple [a,b,c] k2 pt2) pos) (xX i j k fa):=⟨PS.mono (zp hc hN hi hj hk hij hik hjk hx hy hz ha.h.h hw hs) fun D σ H h=>by
 obtain⟨ρ,δ,M,ev,j,g1⟩:=h
 refine⟨ρ,δ,M,ev,j,bF.bind g1 fun ρ1 H1 M1 v d e1 j1 c1 g2=>?_⟩
 cases c1 with
 |nil=>obtain⟨r,e,_⟩:=g2;cases e
 | cons c1 c2=>cases c2 with
   |nil=>obtain⟨r,e,_⟩:=g2;cases e
   | cons c2 c3=>cases c3 with
     |nil=>obtain⟨r,e,_⟩:=g2;cases e
     |cons c3 c4=>cases c4 with
       |nil=>exact⟨_,_,_,rfl,bF.pure (a:=.nx _) g2 ρ1 H1 _ .refl j1 ((((ev.mono e1).set c1).set c2).set c3)⟩
       |cons _ _=>obtain⟨r,e,_⟩:=g2;cases e⟩
end L3
namespace N10
def pl(a b:Nat):Nat×Nat:=(a / Nat.gcd a b,b / Nat.gcd a b)
def Dz(l:List Nat):Nat:=l.foldl Nat.gcd 0
def lst(l:List Nat):List Nat:=l.map (·/ Dz l)
def S:Nat->(Nat->Nat)->Nat
 |0,_=>0
 |n+1,f=>S n f+f n
def up(f:Nat->Nat)(x v:Nat):Nat->Nat:=fun i=>if i=x then v else f i
structure G where
 A:Nat->Nat->Nat
 L:Nat->Nat
 W:Nat->Nat
end N10
namespace L3
open PySem PySem.Spec L2
def nM(R:List (List Nat)):D:=.tup (R.map nT)
def ga(l:List Nat)(i:Nat):Nat:=l.getD i 0
def gr(R:List (List Nat))(i:Nat):List Nat:=R.getD i []
theorem dF{l:List Nat}{i:Nat}(h:i<l.length):ga l i∈l:=by
 unfold ga
 rw[List.getD_eq_getElem?_getD,List.getElem?_eq_getElem h]
 exact List.getElem_mem _
theorem gr_mem{R:List (List Nat)}{i:Nat}(h:i<R.length):gr R i∈R:=by
 unfold gr
 rw[List.getD_eq_getElem?_getD,List.getElem?_eq_getElem h]
 exact List.getElem_mem _
theorem mH{l:List Nat}{i:Nat}(h:i<l.length):ga l i=l[i]:=by
 unfold ga
 rw[List.getD_eq_getElem?_getD,List.getElem?_eq_getElem h];rfl
theorem Av{a b:Nat}(h:nD a=nD b):a=b:=by
 have:=D.int.inj h
 omega
theorem Ax{a b:List Nat}(h:nT a=nT b):a=b:=(List.map_inj_right fun _ _=>Av).mp (D.tup.inj h)
theorem Aw{a b:List (List Nat)}(h:nM a=nM b):a=b:=(List.map_inj_right fun _ _=>Ax).mp (D.tup.inj h)
theorem vK {α:Type}{ft:aa->DM Bool}{fe:aa->DM D}{rest:aa} (enc:α->D) (p:α->Bool) (e:α->D):∀ (as:List α) (x:Option D) (l:List D),l.length + as.length≤1000000->(∀ a∈as,ft (some (enc a)::rest)=Pure.pure (p a))->(∀ a∈as,p a=true->fe (some (enc a)::rest)=Pure.pure (e a))->
  bx (gN 0) ft (bu fe) (as.map enc) (x::rest) l=Pure.pure (gJ x (as.map enc)::rest,l++(as.filter p).map e)
 |[],x,l,_,_,_=>by simp[bx,gJ]
 | d::ds,x,l,hl,h1,h2=>by
   have b:=h1 d (List.mem_cons_self ..)
   have hl':l.length+(ds.length+1)≤1000000:=by simpa using hl
   have lt:l.length<sizeLine:=by show l.length<2^24;omega
   have ih:=fun l' hl'=>vK (rest:=rest) enc p e ds (some (enc d)) l' hl' (fun x hx=>h1 x (List.mem_cons_of_mem _ hx)) (fun x hx=>h2 x (List.mem_cons_of_mem _ hx))
   by_cases hp:p d=true
   ·have c:=h2 d (List.mem_cons_self ..) hp
    have q:=ih (l++[e d]) (by simp;omega)
    simp[bx,b,hp,bu,c,lt,q,gJ]
   ·have q:=ih l (by omega)
    simp[bx,b,hp,q,gJ]
theorem bc{α:Type}{ft:aa->DM Bool}{fe:aa->DM D}{x:Option D}{rest:aa}{as:List α}(enc:α->D)(p:α->Bool)(e:α->D)(hl:as.length≤1000000)(h1:∀a∈as,ft (some (enc a)::rest)=Pure.pure (p a))(h2:∀a∈as,p a=true->fe (some (enc a)::rest)=Pure.pure (e a)) :
  dj (bx (gN 0) ft (bu fe) (as.map enc) (x::rest) [])=Pure.pure (gJ x (as.map enc)::rest,(as.filter p).map e):=by
 rw[vK enc p e as x [] (by simpa using hl) h1 h2];simp
theorem fJ{α:Type}{fe:aa->DM D}{x:Option D}{rest:aa}{as:List α}(enc:α->D)(e:α->D)(hl:as.length≤1000000)(h2:∀a∈as,fe (some (enc a)::rest)=Pure.pure (e a)) :
  dj (bx (gN 0) (fun _=>Pure.pure true) (bu fe) (as.map enc) (x::rest) [])=Pure.pure (gJ x (as.map enc)::rest,as.map e):=by
 rw[bc enc (fun _=>true) e hl (fun _ _=>rfl) fun a ha _=>h2 a ha,List.filter_eq_self.mpr (fun _ _=>rfl)]
theorem rB{a b:Nat}(h0:0<b)(h:b<2^1000):(rd (oJ (nD a) (nD b)):DM D)=Pure.pure (nD (a / b)):=by
 unfold nD
 rw[Bm (yE (by omega) (by simpa using h)),Int.natCast_ediv]
theorem rE{a b:Nat}(h:b<2^64):(rd (ph (nD a) (nD b)):DM D)=Pure.pure (nD (a*b)):=by
 unfold nD
 rw[CG (yP (by simpa using h)),Int.natCast_mul]
theorem ig(a b:Nat):(rd (bY (nD a) (nD b)):DM D)=Pure.pure (nD (a+b)):=by
 unfold nD
 rw[Cq,Int.natCast_add]
theorem fj(a:Nat):(rd (bY (nD a) (.int 1)):DM D)=Pure.pure (nD (a+1)):=ig a 1
theorem Bk(a:Nat):(rd (bY (.int 1) (nD a)):DM D)=Pure.pure (nD (a+1)):=by
 rw[Nat.add_comm];exact ig 1 a
theorem oY{a b:Nat}(h:b≤a):(rd (jk (nD a) (nD b)):DM D)=Pure.pure (nD (a-b)):=by
 unfold nD
 rw[yq]
 have:(a:Int)-(b:Int)=((a-b:Nat):Int):=by omega
 rw[this]
theorem bM(a b:Nat):(rd (bW (nD a) (nD b)):DM D)=Pure.pure (.bl (decide (a=b))):=by
 unfold nD
 rw[Cu]
 have:decide ((a:Int)=(b:Int))=decide (a=b):=by rw[Bool.eq_iff_iff,decide_eq_true_eq,decide_eq_true_eq];omega
 rw[this]
theorem lX(a b:Nat):(rd (cR (nD a) (nD b)):DM D)=Pure.pure (.bl (!decide (a=b))):=by
 unfold nD
 rw[uF]
 have:decide ((a:Int)=(b:Int))=decide (a=b):=by rw[Bool.eq_iff_iff,decide_eq_true_eq,decide_eq_true_eq];omega
 rw[this]
theorem Bp(a b:Nat):(rd (lM (nD a) (nD b)):DM D)=Pure.pure (.bl (decide (a<b))):=by
 unfold nD
 rw[pF]
 have:decide ((a:Int)<(b:Int))=decide (a<b):=by rw[Bool.eq_iff_iff];simp
 rw[this]
theorem vY(a b:Nat):(rd (pW (nD a) (nD b)):DM D)=Pure.pure (.bl (decide (a≤b))):=by
 unfold nD
 rw[xN]
 have:decide ((a:Int)≤(b:Int))=decide (a≤b):=by rw[Bool.eq_iff_iff];simp
 rw[this]
theorem jG(a b:Nat):(rd (gB (nD a) (nD b)):DM D)=Pure.pure (.bl (decide (b<a))):=by
 unfold nD
 rw[Ed]
 have:decide ((b:Int)<(a:Int))=decide (b<a):=by rw[Bool.eq_iff_iff];simp
 rw[this]
theorem vV(a b:Nat):(rd (vC (nD a) (nD b)):DM D)=Pure.pure (.bl (decide (b≤a))):=by
 unfold nD
 rw[Ec]
 have:decide ((b:Int)≤(a:Int))=decide (b≤a):=by rw[Bool.eq_iff_iff];simp
 rw[this]
theorem fB{a b:Nat}(h:0<b):(rd (lN (nD a) (nD b)):DM D)=Pure.pure (nD (a%b)):=Bq h
theorem Bo(l:List Nat):(rd (fZ [nT l]):DM D)=Pure.pure (nD l.length):=by simp[nT,nD]
theorem cO(R:List (List Nat)):(rd (fZ [nM R]):DM D)=Pure.pure (nD R.length):=by simp[nM,nD]
theorem Cw(l:List D):(rd (fY [.tup l,.ty "tuple"]):DM D)=Pure.pure (.bl true):=b7 (t := "tuple") (fun _=>rfl) (by decide)
theorem vW(R:List (List Nat)):(rd (fY [nM R,.ty "tuple"]):DM D)=Pure.pure (.bl true):=Cw _
theorem bJ{n:Nat}(h:n<2^62):jf [nD n]=some (.fix ((List.range n).map nD)):=Br h
theorem vR(R:List (List Nat)):xU (nM R)=some (.fix (R.map nT)):=rfl
theorem Bl(l:List D):(rd (kI (.lst l)):DM Itn)=Pure.pure (.fix l):=rfl
theorem dI{l:List Nat}{i:Nat}(h:i<l.length):(rd (aY (nT l) (nD i)):DM D)=Pure.pure (nD (ga l i)):=Cy (by unfold ga;rw[List.getD_eq_getElem?_getD,List.getElem?_eq_getElem h];rfl)
theorem jT{R:List (List Nat)}{i:Nat}(h:i<R.length):(rd (aY (nM R) (nD i)):DM D)=Pure.pure (nT (gr R i)):=iU (by unfold gr;rw[List.getElem?_map,List.getD_eq_getElem?_getD,List.getElem?_eq_getElem h];rfl)
theorem vX{R:List (List Nat)}(h:0<R.length):(rd (aY (nM R) (.int 0)):DM D)=Pure.pure (nT (gr R 0)):=jT h
end L3
namespace LS
open PySem PySem.Spec PyProof.Rows PyProof
end LS
namespace L2
open PySem PySem.Spec PyProof.Rows
variable{X:Cx}{pos:Pos}
end L2
namespace L3
open PySem PySem.Spec PyProof.Rows L2
variable{X:Cx}{E:XK}{pos:Pos}
def gL(n:Nat)(fs:List D->aa->DM aa):D->aa->DM aa
 |.lst l,δ=>if l.length=n then fs l δ else stuck
 |_,_=>stuck
@[simp] theorem Gh(n:Nat)(fs:List D->aa->DM aa)(l:List D)(δ:aa):gL n fs (.lst l) δ=if l.length=n then fs l δ else stuck:=id rfl
theorem wV{X:Cx}{E:XK}{st:Stmt}:DS X E st (fun _=>stuck):=⟨by
 intro pins s σ H D I h
 obtain⟨ρ,δ,M,ev,j,g1⟩:=h
 obtain⟨r,e,_⟩:=g1
 cases e⟩
end L3
namespace L3
open PySem PySem.Spec L2
abbrev Mg:=Str->Option Value
abbrev Fn:=List D->DM D
abbrev Nn(mg:Mg)(x:Str):Prop:=mg x=none
abbrev Gi(mg:Mg)(x:Str)(i:Int)(t:Tok):Prop:=mg x=some (.int i t)
abbrev Rm(k:Nat)(A:Around)(q:Str)(st:Stmt)(s:Shared)(f:Addr)(cdv:Value):Prop:=Room k (A.deeper (PyProof.Rows.envOfC q (defScope st) s.heap.objs.size f cdv))
abbrev Ds(P:Program)(w:World)(K:PySem.W.Frag)(mg:Mg)(base:Heap)(N:List Str)(q:Str)(st:Stmt)(f:Addr)(cdv:Value)(A:Around)(outer:List Env)(s:Shared)(H:Hp)(E:XK)(b:aa->DM Fl):Prop:=
 DSs (gY P w K mg base N q (defScope st) f cdv A outer s H E) E (defBody st) b
theorem CN{N P:List Str}{sc:Scope}(a:sc.kind=.function)(b:sc.isCoroutine=false)(c:sc.isGenerator=false)(p:N.take P.length=P)(d:(decide N.Nodup&&(decide (∀x∈P,sc.names.lookup x=some .local∨sc.names.lookup x=some .cell)&&decide (∀y∈sc.names,y.2≠.free)))=true):FnScope N P sc:=by
 simp only[Bool.and_eq_true,decide_eq_true_eq] at d
 exact⟨a,b,c,d.1,p,d.2.1,d.2.2⟩
def inD(x y:D)(M:Mo):Option D:=match x with
 |.int i=>((fM y M).bind intsOf).map fun ns=>.bl (ns.contains i)
 |_=>none
def xq(x y:D)(M:Mo):Option D:=match x with
 |.int i=>((fM y M).bind intsOf).map fun ns=>.bl (!ns.contains i)
 |_=>none
theorem qM (i:Int):∀ ns:List Int,inV (.int i) (ns.map V.int)=ns.contains i
 |[]=>rfl
 |n::ns=>by
   have ih:=qM i ns
   unfold inV at ih ⊢
   rw[List.map_cons,List.any_cons,ih,List.contains_cons]
   congr 1
   show eqV (.int n) (.int i)=_
   unfold eqV
   rw[Bool.eq_iff_iff]
   simp
   exact⟨fun h=>h.symm,fun h=>h.symm⟩
theorem vA(ns:List Int):(ns.map V.int).all flatV=true:=by simp[flatV]
section
variable{X:Cx}{E:XK}
theorem sZ:bC X E (compareOp .NotIn) (fun x y=>rd (xq x y)):=by
 refine bC.of op_notIn_seq fun x y H Q ρ M dx dy d j cx cy e q=>?_
 unfold xq at e
 split at e
 ·obtain⟨ns,h1,rfl⟩:=Option.map_eq_some_iff.mp e
  obtain⟨l,h2,h3⟩:=Option.bind_eq_some_iff.mp h1
  cases cx
  obtain⟨a,xs,rfl,ha,c⟩:=rJ j cy h2
  have:=ints_of c h3
  subst this
  refine⟨a,_,rfl,ha.imp (fun h=>SqL.of h) (fun h=>SqT.of h),rfl,vA ns,?_⟩
  rw[if_pos rfl,qM]
  exact q ρ H _ .refl j (.bl _)
 ·cases e
end
theorem wZ(l:List Nat)(i:Nat):(l.map fun n:Nat=>(n:Int)).contains (i:Int)=l.contains i:=by
 rw[Bool.eq_iff_iff]
 simp
 constructor
 ·rintro⟨a,h,e⟩;have:a=i:=by omega
  exact this ▸ h
 ·exact fun h=>⟨i,h,rfl⟩
def yr(lo hi:Option Int):D->Mo->Option D
 |.scr ns,_=>some (.lst (cutD (ns.map D.int) lo hi))
 |_,_=>none
theorem su{mg:Str->Option Value}{ρ:Rh}{H:Hp}:∀l:List Int,Cvs mg ρ H (l.map V.int) (l.map D.int)
 |[]=>.nil
 |n::l=>.cons (.int _) (su l)
section
variable{X:Cx}{E:XK}
theorem Ei:SlR X (fun x lo hi H Q=>∃ρ M dx d,J X.mg ρ M H∧Cv X.mg ρ H x dx∧yr lo hi dx M=some d∧∀ρ' H' v,Ext ρ H ρ' H'->J X.mg ρ' M H'->Cv X.mg ρ' H' v d->Q v H'):=by
 intro pins s σ H x v vl vu lo hi sl Q I rx hs pl pu h
 obtain⟨ρ,M,dx,d,j,c,e,q⟩:=h
 unfold yr at e
 split at e
 ·cases e
  cases c with | scr n rd=>
  refine sl_list (X:=X) pins s σ H _ v vl vu lo hi sl Q I rx hs pl pu ⟨_,_,rfl,.inl rd,fun p hp=>?_⟩
  exact q ρ _ _ (.lay hp) (j.lay _ hp) (.lst (j.fresh hp) upd_same (((su _).cut lo hi).mono (.lay hp)))
 ·cases e
theorem vf{a:Expr}{fa:aa->DM D}{lo hi:Option Expr}{fl fh:aa->DM (Option Int)}{p2 pos:Pos}(ha:DE X E a fa)(hl:DP X E lo fl)(hh:DP X E hi fh) :
  DE X E (.Subscript a (.Slice lo hi none p2) pos) (fun δ=>fa δ>>=fun x=>fl δ>>=fun l=>fh δ>>=fun h=>rd (yr l h x)):=⟨PE.mono (pe_slice Ei ha.h hl.h hh.h) fun σ H Q h=>by
 obtain⟨ρ,δ,M,ev,j,g1⟩:=h
 refine⟨ρ,δ,M,ev,j,g1.bind fun ρ1 H1 M1 x dx e1 j1 c1 g2=>⟨ρ1,δ,M1,ev.mono e1,j1,g2.bind fun ρ2 H2 M2 l dl e2 j2 c2 g3=>⟨ρ2,δ,M2,(ev.mono e1).mono e2,j2,g3.bind fun ρ3 H3 M3 h dh e3 j3 c3 g4=>?_⟩⟩⟩
 have c2:l=dl:=c2
 have c3:h=dh:=c3
 subst c2 c3
 obtain⟨d,e,q⟩:=g4.rd
 exact⟨ρ3,M3,dx,d,j3,(c1.mono e2).mono e3,e,q⟩⟩
end
theorem CJ(ns:List Int)(lo hi:Option Int):(rd (yr lo hi (.scr ns)):DM D)=Pure.pure (.lst (cutD (ns.map D.int) lo hi)):=rfl
theorem u1{n:Nat}(h:n+64<cLine):n+1<cLine:=by omega
end L3
namespace L3
open PySem L2
end L3
namespace L3
open PySem PySem.Spec L2 LB
end L3
namespace L3
open PySem L2
end L3
namespace L3
open PySem PySem.Spec L2 LA LB
open PyProof.Rows hiding St
end L3
namespace L3
open PySem PySem.Spec L2 LA LB LS
open PyProof.Rows hiding St
end L3
namespace L2
open PySem PySem.Spec PyProof.Rows LS LA LB
end L2
namespace L3
open PySem PySem.Spec L2 LA LB
end L3
namespace L3
open PySem PySem.Spec L2
open PyProof.Rows hiding St
end L3
namespace L3
open PySem PySem.Spec PyProof.Rows L2
abbrev TB(K:PySem.W.Frag)(x:Str):Prop:=PySem.W.nsIn K mainGlobals x=some none
def TD(K:PySem.W.Frag)(x:Str)(st:Stmt):Prop:=∀{h:Heap}{mg:Mg},K.In h->h.Ns mainGlobals mg->DefAt K mg x st
section
variable{K:PySem.W.Frag}{x:Str}{st:Stmt}{f:Addr}{oc:Value}{od an:Option Addr}{osl:Array (Option Value)}{kV doc pm cdv ct:Value}
theorem CV(a:PySem.W.nsIn K mainGlobals x=some (some (.ref f)))(l:K.lookup f=some ⟨oc,od,.func (PySem.W.fnOf x x (defArgs st) (defBody st) (defScope st) .none kV doc pm an cdv ct),osl⟩)(c:PySem.W.codeIn K cdv x=true)(k:PySem.W.keepIn K (.ref f)=true):TD K x st:=
 fun X G=>wU X G a l c k
end
section
variable{P:Program}{w:World}{K:PySem.W.Frag}{mg:Mg}{base:Heap}{k:Nat}{C:Addr}{c x qual:Str}{N ps:List Str}{st:Stmt}{fb:aa->DM Fl}{is:List Int}
theorem okd(T:DefAt K mg x st)(S:FnScope N ps (defScope st))(hbody:∀{f cdv A outer s H E},Rm k A x st s f cdv->Ds P w K mg base N x st f cdv A outer s H E fb)
  (hb:∀(kV doc pm:Value) (an:Option Addr) (cdv ct:Value) (us:List Value),us.length=ps.length->bindArgs (PySem.W.fnOf x x (defArgs st) (defBody st) (defScope st) .none kV doc pm an cdv ct) ⟨us,[]⟩=pure (ps.zip us):=by intro _ _ _ _ _ _ us hl;first | (obtain⟨_,rfl⟩:=qP hl;rfl) | (obtain⟨_,_,rfl⟩:=DK hl;rfl) | (obtain⟨_,_,_,rfl⟩:=DN hl;rfl) | (obtain⟨_,_,_,_,rfl⟩:=DQ hl;rfl)) :
  DefD P w K mg base (k+1) x ps (aP ps.length N.length fb):=L3.DefAt.okD T S hb fun _ _ _ _ _ _ _=>hbody
theorem Dj(T:MethAt K C x qual st)(m:mg c=some (.ref C))(cl:L2.Cls K C)(S:FnScope N ps (defScope st))(hbody:∀{f cdv A outer s H E},Rm k A qual st s f cdv->Ds P w K mg base N qual st f cdv A outer s H E fb):MethD P w K mg base (k+1) c x qual st ps (aP ps.length N.length fb):=L3.MethAt.okD T m cl S fun _ _ _ _ _ _ _=>hbody
end
end L3
namespace LA
open PySem PySem.W PySem.Calls LS PyProof.Rows LB
end LA
namespace L2
open PySem PySem.Spec PyProof.Rows LS LA LB
end L2
namespace L3
open PySem PySem.Spec L2 LA LB LS
open PyProof.Rows hiding St
end L3
namespace L3
open PySem PySem.Spec L2
open PyProof.Rows hiding St
end L3
namespace L3
open PySem PySem.Spec L2 LB
end L3
namespace L3
open PySem PySem.Spec L2
open PyProof.Rows hiding St
section
variable{X:Cx}{E:XK}{a:Expr}{fa:aa->DM D}{fs:aa->DM (List D)}{pos p1 p2 p3 p4:Pos}
def zU:D->D->Mo->Option D
 |.tup l,.tup [],_=>some (.bl l.isEmpty)
 |_,_,_=>none
theorem yX(hu:X.A.units+64<cLine):OpR X (compareOp .Eq) (fun x y H Q=>∃a b xs,x=.ref a∧y=.ref b∧H a=some (.tup xs)∧H b=some (.tup [])∧Q (.bl xs.isEmpty) H):=by
 intro pins s σ H x y v u Q I rx ry h
 obtain⟨a,b,xs,rfl,rfl,ha,hb,q⟩:=h
 cases rx
 cases ry
 obtain⟨i1,r1,h1,_⟩:=I.tuple (SqT.of (K:=X.K) ha)
 obtain⟨i2,r2,h2,_⟩:=I.tuple (SqT.of (K:=X.K) hb)
 cases r2
 refine PySem.SeqAt.RcAt.tuples (e:=fun _=>true) h1 h2 (by omega) (fun j _ j2=>absurd j2 (Nat.not_lt_zero _)) _ _ _ _ ?_
 refine⟨.bl xs.isEmpty,H,I,?_,q⟩
 cases r1<;>rfl
theorem yW (hu:X.A.units + 64<cLine):bC X E (compareOp .Eq) (fun x y=>rd (zU x y)):=bC.of (yX hu) fun x y H Q ρ M dx dy d j cx cy e q=>by
 unfold zU at e
 split at e
 ·cases e
  cases cx with
  | tup n1 h1 c1=>
    cases cy with
    |tup n2 h2 c2=>
      cases c2
      refine⟨_,_,_,rfl,rfl,h1,h2,?_⟩
      rw[c1.empty]
      exact q ρ H _ .refl j (.bl _)
 ·cases e
def xO:D->Option D
 |.tup l=>some (.tup l.reverse)
 |_=>none
theorem zT{i:Nat}(ha:DE X E a fa):DE X E (.Subscript a (.Slice none none (some (.UnaryOp .USub (.Constant (.int 1) i p3) p4)) p2) pos) (fun δ=>fa δ>>=fun x=>opt (xO x)):=⟨PE.mono (Bg ha.h) fun σ H Q h=>by
 obtain⟨ρ,δ,M,ev,j,g1⟩:=h
 refine⟨ρ,δ,M,ev,j,g1.bind fun ρ1 H1 M1 x dx e1 j1 c1 g2=>?_⟩
 obtain⟨d,ed,q⟩:=g2.opt
 unfold xO at ed
 split at ed
 ·cases ed
  cases c1 with
  |tup n h c=>exact⟨_,_,rfl,h,fun p hp=>q ρ1 _ _ (.lay hp) (j1.lay _ hp) (.tup (j1.fresh hp) upd_same (c.reverse.mono (.lay hp)))⟩
 ·cases ed⟩
def nb(b:Bool):Int:=if b=true then 1 else 0
def wG:D->D->Mo->Option D
 |.int i,.int j,_=>some (.int (i+j))
 |.bl b,.int j,_=>some (.int (nb b+j))
 |_,_,_=>none
def subB:D->D->Mo->Option D
 |.int i,.int j,_=>some (.int (i-j))
 |.bl b,.int j,_=>some (.int (nb b-j))
 |.int i,.bl b,_=>some (.int (i-nb b))
 |_,_,_=>none
theorem sY:bC X E (binaryOp .Add) (fun x y=>rd (wG x y)):=by
 have h:OpR X (binaryOp .Add) (fun x y H Q=>∃b j,x=.bl b∧y=.int j∧Q (.int (nb b+j)) H):=by
  intro pins s σ H x y v u Q I rx ry h
  obtain⟨b,j,rfl,rfl,q⟩:=h
  cases rx
  obtain⟨t,rfl⟩:=ry
  exact PySem.IntBool.add_bool_int ⟨.int _,H,I.tok _,⟨_,rfl⟩,q⟩
 refine bC.of (op_add.or h) fun x y H Q ρ M dx dy d j cx cy e q=>?_
 unfold wG at e
 split at e
 ·cases e;cases cx;cases cy
  exact .inl ⟨_,_,rfl,rfl,q ρ H _ .refl j (.int _)⟩
 ·cases e;cases cx;cases cy
  exact .inr ⟨_,_,rfl,rfl,q ρ H _ .refl j (.int _)⟩
 ·cases e
theorem tE:bC X E (binaryOp .Sub) (fun x y=>rd (subB x y)):=by
 have h:OpR X (binaryOp .Sub) (fun x y H Q=>∃b j,x=.bl b∧y=.int j∧Q (.int (nb b-j)) H):=by
  intro pins s σ H x y v u Q I rx ry h
  obtain⟨b,j,rfl,rfl,q⟩:=h
  cases rx
  obtain⟨t,rfl⟩:=ry
  exact PySem.IntBool.sub_bool_int ⟨.int _,H,I.tok _,⟨_,rfl⟩,q⟩
 have h':OpR X (binaryOp .Sub) (fun x y H Q=>∃i b,x=.int i∧y=.bl b∧Q (.int (i-nb b)) H):=by
  intro pins s σ H x y v u Q I rx ry h
  obtain⟨i,b,rfl,rfl,q⟩:=h
  cases ry
  obtain⟨t,rfl⟩:=rx
  exact PySem.IntBool.sub_int_bool ⟨.int _,H,I.tok _,⟨_,rfl⟩,q⟩
 refine bC.of (op_sub.or (h.or h')) fun x y H Q ρ M dx dy d j cx cy e q=>?_
 unfold subB at e
 split at e
 ·cases e;cases cx;cases cy
  exact .inl ⟨_,_,rfl,rfl,q ρ H _ .refl j (.int _)⟩
 ·cases e;cases cx;cases cy
  exact .inr (.inl ⟨_,_,rfl,rfl,q ρ H _ .refl j (.int _)⟩)
 ·cases e;cases cx;cases cy
  exact .inr (.inr ⟨_,_,rfl,rfl,q ρ H _ .refl j (.int _)⟩)
 ·cases e
theorem vq{st:List Stmt}:DSs X E st (fun _=>stuck):=⟨by
 intro pins s σ H D I h
 obtain⟨ρ,δ,M,ev,j,g1⟩:=h
 obtain⟨r,e,_⟩:=g1
 cases e⟩
end
end L3
namespace N10
end N10
namespace K
open PySem L2 L3
theorem fV(l:List Str)(h:l.Nodup:=by decide):l.Nodup:=h
local macro_rules | `(tactic| trivial)=>`(tactic| refine⟨rfl,by decide +kernel,rfl,Bs ?_,fun m_=>Ab rfl,by decide,rfl,yR rfl,yU ?_,zZ ?_⟩<;>((repeat' apply And.intro)<;>first | exact True.intro | rfl | exact Or.inl rfl | exact Or.inr rfl | exact⟨_,rfl⟩))
def top(i:Nat):Stmt:=PySem.Challenge.pw_fadewalk_k32_meetings_looked_at.main.body.getD i (.Pass ⟨0,0,0,0⟩)
abbrev Qd(k:Nat)(N:List Str)(x:Str)(st:Stmt)(Y:Program->World->PySem.W.Frag->Mg->Heap->Prop->Prop):={b:aa->DM Fl // ∀{P w K mg base f cdv A outer s H E},Y P w K mg base (Rm k A x st s f cdv->Ds P w K mg base N x st f cdv A outer s H E b)}
abbrev Qe(k:Nat)(N:List Str)(x:Str)(st:Stmt)(Y:(Nat->Str->List Str->Fn->Prop)->(Str->Prop)->Prop->Prop):=Qd k N x st fun P w K m o=>Y (DefD P w K m o) (Nn m)
abbrev Sc(N ps:List Str)(st:Stmt):=FnScope N ps (defScope st)
theorem dG{N P:List Str}{sc:Scope}(a:sc.kind=.function:=by exact rfl)(b:sc.isCoroutine=false:=by exact rfl)(c:sc.isGenerator=false:=by exact rfl)(p:N.take P.length=P:=by exact rfl)(d:(decide N.Nodup&&(decide (∀x∈P,sc.names.lookup x=some .local∨sc.names.lookup x=some .cell)&&decide (∀y∈sc.names,y.2≠.free)))=true:=by decide +kernel):FnScope N P sc:=CN a b c p d
theorem lG{X:Cx}{E:XK}{scope:Scope}{cl:List (Str×Addr)}{elt i0:Expr}{p0 pos:Pos}{fi:aa->DM Itn}{fe:aa->DM D}(x:Str)(js:List Nat)(fr:List Str)(hi:DI X E (.Name x p0) i0 fi)
  (he:∀{pins m fp C s₂ H₂},DE (X.bc pins scope (cellsFrom m scope.names cl) ([x]++fr) fp C s₂ H₂) E0 elt fe) (T:CompG X scope cl [x] js fr:=by trivial) (hc:X.calm=true:=by exact rfl)
  (nd:([x]++fr).Nodup:=by decide) (hl:∀m C Z,(compEnvC scope (cellsFrom m scope.names cl) C Z).scope.names.lookup x=some .local:=by intros;exact rfl)
  (hs:∀y,foldedSetIterable i0 X.env y=pure y:=by intro _;rfl) :
  DE X E (.ListComp elt [⟨.Name x p0,i0,[],0⟩] scope pos) (fun δ=>fi δ>>=fun it=>dj (cM (gN 0) (fun _=>pure true) (bu fe) it (aQ [x].length js δ) [])>>=fun p=>Out.val.run p.2):=
 cz (own:=[x]) .val hc T hi (fun _ _ _ _ _ _=>aH (i:=0) nd rfl (Or.inl (hl ..)) (Or.inr (hl ..))) (fun _ _ _ _ _ _=>jx) (fun _ _ _ _ _ _=>he) hs
section
variable(N:Nat)(v0 v1 v2 v3 v4 v5 v6 v7 v8 v9:Fn)
abbrev j8:Stmt:=top 5
theorem rT:Sc ["thing"] ["thing"] j8:=dG
@[simp] noncomputable def oX:Qe 0 ["thing"] "is_whole" j8 fun D n Z=>n "bool"->n "int"->n "isinstance"->Z:=
 ⟨_,fun ya yb yc hr=>(aA (aF (lH (aL bA yc (ak (aj 0) (ak (cX (T := "int") yb) ao))) (lJ (vd (aL bA yc (ak (aj 0) (ak (cX (T := "bool") ya) ao))))))))⟩
noncomputable def gF:=(oX).1
abbrev gq:Stmt:=top 8
theorem pH:Sc ["thing", "many"] ["thing", "many"] gq:=dG
@[simp] noncomputable def kZ:Qe 1 ["thing", "many"] "are_weights" gq fun D n Z=>D 1 "is_whole" ["thing"] v0->n "all"->n "isinstance"->n "len"->n "tuple"->Z:=
 ⟨_,fun ya yb yc yd ye hr=>(az (bj (DW.dt (bZ (bB (aX (aL bA yc (ak (aj 0) (ak (cX (T := "tuple") ye) ao))) (fun _=>rfl))) (cL (aM (bQ hr.units) (aL call_lenD yd (ak (aj 0) ao)) (aj 1)))))
  (aA (aF cF))
  aN)
  (aA (aF (aL (dC hr.hd) yb (ak (lG "weight" [] [] (fQ (aj 0)) (lH (aB ya hr dR (ak (aj 0) ao)) (lJ (fO qW (aj 0) aq)))) ao)))))⟩
noncomputable def kO:=(kZ v0).1
abbrev jZ:Stmt:=top 9
theorem rQ:Sc ["thing", "many"] ["thing", "many"] jZ:=dG
@[simp] noncomputable def oV:Qe 2 ["thing", "many"] "are_rows" jZ fun D n Z=>D 2 "are_weights" ["thing", "many"] v0->n "all"->n "isinstance"->n "len"->n "tuple"->Z:=
 ⟨_,fun ya yb yc yd ye hr=>(az (bj (DW.dt (bZ (bB (aX (aL bA yc (ak (aj 0) (ak (cX (T := "tuple") ye) ao))) (fun _=>rfl))) (cL (aM (bQ hr.units) (aL call_lenD yd (ak (aj 0) ao)) (aj 1)))))
  (aA (aF cF))
  aN)
  (aA (aF (aL (dC hr.hd) yb (ak (lG "row" [1] ["many"] (fQ (aj 0)) (aB ya hr dR (ak (aj 0) (ak (aj 1) ao)))) ao)))))⟩
noncomputable def oA:=(oV v0).1
abbrev j0:Stmt:=top 10
theorem rR:Sc ["thing", "many"] ["thing", "many"] j0:=dG
@[simp] noncomputable def oW:Qe 1 ["thing", "many"] "is_place" j0 fun D n Z=>D 1 "is_whole" ["thing"] v0->Z:=
 ⟨_,fun ya hr=>(aA (aF (lH (aB ya hr aR (ak (aj 0) ao)) (lJ (wR lO jC aq (aj 0) (aj 1))))))⟩
noncomputable def gD:=(oW v0).1
abbrev cT:Stmt:=inClass (top 17) 1
theorem oZ:Sc ["self"] ["self"] cT:=dG
@[simp] noncomputable def jD:Qd 0 ["self"] "Walk.__len__" cT fun P w K m o Z=>∀{C_Walk},OCls K m "Walk" C_Walk ["rows", "whole"]->Nn m "len"->Z:=
 ⟨_,fun ya yb hr=>(aA (aF (aL call_lenD yb (ak (u9 ya (by decide) (aj 0)) ao))))⟩
noncomputable def jo:=(jD).1
abbrev nP:Stmt:=top 12
theorem wu:Sc ["walk", "thing"] ["walk", "thing"] nP:=dG
@[simp] noncomputable def rA:Qd 2 ["walk", "thing"] "is_way" nP fun P w K m o Z=>∀{C_Walk},DefD P w K m o 2 "is_place" ["thing", "many"] v0->MethD P w K m o 1 "Walk" "__len__" "Walk.__len__" cT ["self"] v1->OCls K m "Walk" C_Walk ["rows", "whole"]->Nn m "all"->Nn m "isinstance"->Nn m "len"->Nn m "range"->Nn m "tuple"->Z:=
 ⟨_,fun ya yb yc yd ye yf yg yh hr=>(az (bj (DW.dt (bZ (bB (aX (aL bA ye (ak (aj 1) (ak (cX (T := "tuple") yh) ao))) (fun _=>rfl))) (bZ (bB (aX (aj 1) (fun _=>rfl))) (cL (bB (aX (aL (dC hr.hd) yd (ak (lG "place" [0] ["walk"] (fQ (aj 1)) (aB ya hr dR (ak (aj 0) (ak (aL (iJ yb hr dR (fun _ _ _ _ _ _ us hl=>by obtain⟨_,rfl⟩:=qP hl;rfl)) yf (ak (aj 1) ao)) ao)))) ao)) (fun _=>rfl)))))))
  (aA (aF cF))
  aN)
  (aA (aF (aL (dC hr.hd) yd (ak (lG "at" [0,1] ["walk", "thing"] (vh rfl yg (ak aq (ak (aL call_lenD yf (ak (aj 1) ao)) ao))) (fO jB (aJ aO (aJ aO (u9 yc (by decide) (aj 1)) (aJ aO (aj 2) (aD eY (aj 0) aq))) (aJ aO (aj 2) (aj 0))) aq)) ao)))))⟩
noncomputable def gW:=(rA v0 v1).1
abbrev iz:Stmt:=top 14
theorem lu:Sc ["walk", "thing", "steps", "place", "ways", "ends"] ["walk", "thing"] iz:=dG
@[simp] noncomputable def lU:Qd 3 ["walk", "thing", "steps", "place", "ways", "ends"] "is_meeting" iz fun P w K m o Z=>DefD P w K m o 2 "is_place" ["thing", "many"] v0->DefD P w K m o 1 "is_whole" ["thing"] v1->DefD P w K m o 3 "is_way" ["walk", "thing"] v2->MethD P w K m o 1 "Walk" "__len__" "Walk.__len__" cT ["self"] v3->Nn m "all"->Nn m "isinstance"->Nn m "len"->Nn m "range"->Nn m "tuple"->Z:=
 ⟨_,fun ya yb yc yd ye yf yg yh yi hr=>have nd:=lu.nd;(az (bj (DW.dt (bZ (bB (aX (aL bA yf (ak (aj 1) (ak (cX (T := "tuple") yi) ao))) (fun _=>rfl))) (cL (aM (bQ hr.units) (aL call_lenD yg (ak (aj 1) ao)) aq))))
  (aA (aF cF))
  aN)
  (az (jw (aj 1) (lL (n:=3) rfl (cA (aH (i:=2) nd rfl (Or.inr rfl)) (cA (aH (i:=3) nd rfl (Or.inr rfl)) (cA (aH (i:=4) nd rfl (Or.inl rfl)) ju)))))
  (az (bj (DW.dt (bZ (bB (aX (aB yb hr aR (ak (aj 2) ao)) (fun _=>rfl))) (cL (bB (aX (aB ya hr aR (ak (aj 3) (ak (aL (iJ yd hr aR (fun _ _ _ _ _ _ us hl=>by obtain⟨_,rfl⟩:=qP hl;rfl)) yg (ak (aj 0) ao)) ao))) (fun _=>rfl))))))
  (aA (aF cF))
  aN)
  (az (bj (DW.dt (bZ (bB (aX (aL bA yf (ak (aj 4) (ak (cX (T := "tuple") yi) ao))) (fun _=>rfl))) (bZ (aM (bQ hr.units) (aL call_lenD yg (ak (aj 4) ao)) (aL (iJ yd hr aR (fun _ _ _ _ _ _ us hl=>by obtain⟨_,rfl⟩:=qP hl;rfl)) yg (ak (aj 0) ao))) (cL (bB (aX (aL (dC hr.hd) ye (ak (lG "way" [0] ["walk"] (fQ (aj 4)) (aB yc hr dR (ak (aj 1) (ak (aj 0) ao)))) ao)) (fun _=>rfl)))))))
  (aA (aF cF))
  aN)
  (az (eX (i:=5) (own:=["way"]) (js:=[]) (fr:=[]) .val nd rfl (Or.inl rfl) rfl (by trivial) (fQ (aj 4)) (fun _ _ _ _ _ _=>(aH (i:=0) (fV ["way"]) rfl (Or.inl rfl))) (fun _ _ _ _ _ _=>jx) (fun _ _ _ _ _ _=>(bf (ak (aD eY (aL call_lenD yg (ak (aj 0) ao)) aq) (ak (aJ aO (aj 0) aq) (ak (aJ aO (aj 0) (oG aq)) ao))))))
  (aA (aF (fO (bO hr.units) (aj 5) (lG "start" [2,3] ["steps", "place"] (aU rfl yh (ak (aL (iJ yd hr aR (fun _ _ _ _ _ _ us hl=>by obtain⟨_,rfl⟩:=qP hl;rfl)) yg (ak (aj 0) ao)) ao)) (bf (ak (aj 1) (ak (aj 0) (ak (aj 2) ao)))))))))))))⟩
noncomputable def bL:=(lU v0 v1 v2 v3).1
abbrev eN:Stmt:=top 16
theorem iC:Sc ["thing", "whole"] ["thing"] eN:=dG
@[simp] noncomputable def iT:Qd 3 ["thing", "whole"] "can_be_walked" eN fun P w K m o Z=>∀{t_MOST_PLACES},DefD P w K m o 3 "are_rows" ["thing", "many"] v0->Gi m "MOST_PLACES" 25 t_MOST_PLACES->Nn m "all"->Nn m "isinstance"->Nn m "len"->Nn m "sum"->Nn m "tuple"->Z:=
 ⟨_,fun ya yb yc yd ye yf yg hr=>have nd:=iC.nd;(az (bj (DW.dt (bZ (bB (aX (aL bA yd (ak (aj 0) (ak (cX (T := "tuple") yg) ao))) (fun _=>rfl))) (bZ (bB (nu lO lO aq (aL call_lenD ye (ak (aj 0) ao)) (BX yb))) (cL (bB (aX (aB ya hr aR (ak (aj 0) (ak (aL call_lenD ye (ak (aj 0) ao)) ao))) (fun _=>rfl)))))))
  (aA (aF cF))
  aN)
  (az (bh (i:=1) nd rfl (Or.inr rfl) (aL (lF hr.hd) yf (ak (aJ aO (aj 0) aq) ao)))
  (aA (aF (lH (fO qW (aj 1) aq) (lJ (aL (dC hr.hd) yc (ak (lG "row" [1] ["whole"] (fQ (aj 0)) (fO (bO hr.units) (aL (lF hr.hd) yf (ak (aj 0) ao)) (aj 1))) ao))))))))⟩
noncomputable def iH:=(iT v0).1
abbrev eG:Stmt:=inClass (top 17) 0
theorem nQ:Sc ["self", "rows"] ["self", "rows"] eG:=dG
@[simp] noncomputable def iR:Qd 4 ["self", "rows"] "Walk.__init__" eG fun P w K m o Z=>∀{C_Walk},DefD P w K m o 4 "can_be_walked" ["thing"] v0->OCls K m "Walk" C_Walk ["rows", "whole"]->Nn m "sum"->Z:=
 ⟨_,fun ya yb yc hr=>(az (bj (bB (aX (aB ya hr aR (ak (aj 1) ao)) (fun _=>rfl)))
  (aA wV)
  aN)
  (az (vm yb (by decide) (aj 0) (aj 1))
  (aA (vm yb (by decide) (aj 0) (aL (lF hr.hd) yc (ak (aJ aO (aj 1) aq) ao))))))⟩
noncomputable def iG:=(iR v0).1
abbrev fD:Stmt:=top 19
theorem o4:Sc ["_law_script", "_law_k"] ["_law_script", "_law_k"] fD:=dG
@[simp] noncomputable def jE:Qe 0 ["_law_script", "_law_k"] "_law_cell_at" fD fun D n Z=>n "len"->Z:=
 ⟨_,fun ya hr=>(az (bj (aM jC (aj 1) (aL call_lenD ya (ak (aj 0) ao)))
  (aA (aF (aJ aO (aj 0) (aj 1))))
  aN)
  (aA (aF aq)))⟩
noncomputable def eQ:=(jE).1
abbrev jh:Stmt:=top 20
theorem mj:Sc ["_law_seed"] ["_law_seed"] jh:=dG
@[simp] noncomputable def m9:Qe 0 ["_law_seed"] "_law_next" jh fun _ _ Z=>Z:=
 ⟨_,fun  hr=>have nd:=mj.nd;(az (bh (i:=0) nd rfl (Or.inl rfl) (aD dY (aD aW (aj 0) aq) aq))
  (aA (aF (aD dY (aD aW (aD aW (aD pC (aj 0) (aj 0)) (aD pC aq (aj 0))) aq) aq))))⟩
noncomputable def mZ:=(m9).1
abbrev gk:Stmt:=top 21
theorem jH:Sc ["_law_cell", "_law_left"] ["_law_cell"] gk:=dG
@[simp] noncomputable def gh:Qe 0 ["_law_cell", "_law_left"] "_law_pen_of" gk fun D n Z=>n "int"->n "max"->Z:=
 ⟨_,fun ya yb hr=>have nd:=jH.nd;(az (bh (i:=1) nd rfl (Or.inl rfl) (aL (ug rfl) yb (ak (aj 0) (ak (aD eY aq (aj 0)) ao))))
  (aA (aF (jr (ak (aj 1) (ak (lK (T := "int") oE ya (ak (fO qW (aj 1) (aD tu aq aq)) ao)) (ak (aD dY (aj 1) aq) ao)))))))⟩
noncomputable def kJ:=(gh).1
abbrev jg:Stmt:=top 22
theorem lY:Sc ["_law_pen", "_law_many", "_law_found"] ["_law_pen", "_law_many"] jg:=dG
@[simp] noncomputable def jc:Qe 1 ["_law_pen", "_law_many", "_law_found"] "_law_draw" jg fun D n Z=>D 1 "_law_next" ["_law_seed"] v0->Z:=
 ⟨_,fun ya hr=>have nd:=lY.nd;(az (bj (DW.dt (vy (aM (bO hr.units) (aJ aO (aj 0) aq) aq) (sy (aM jB (aJ aO (aj 0) aq) aq))))
  (az (bh (i:=2) nd rfl (Or.inl rfl) (aD dY (aJ aO (aj 0) aq) (aj 1)))
  (az (jw (aD jP (aJ aO (aj 0) aq) (aj 1)) (vg (aj 0) aq uL))
  (aA (aF (aj 2)))))
  aN)
  (az (jw (aB ya hr aR (ak (aD aW (aB ya hr aR (ak (aJ aO (aj 0) aq) ao)) aq) ao)) (vg (aj 0) aq uL))
  (aA (aF (aD dY (aD jP (aJ aO (aj 0) aq) aq) (aj 1))))))⟩
noncomputable def mY:=(jc v0).1
abbrev ji:Stmt:=top 23
theorem mq:Sc ["_law_pen", "_law_most", "_law_many", "_law_whole_here", "_law_way_here", "_law_rows_here", "_law_x", "_law_some", "_law_row", "_law_ball"] ["_law_pen", "_law_most"] ji:=dG
@[simp] noncomputable def je:Qe 2 ["_law_pen", "_law_most", "_law_many", "_law_whole_here", "_law_way_here", "_law_rows_here", "_law_x", "_law_some", "_law_row", "_law_ball"] "_law_rows" ji fun D n Z=>D 2 "_law_draw" ["_law_pen", "_law_many"] v0->n "int"->n "len"->n "list"->n "range"->n "tuple"->Z:=
 ⟨_,fun ya yb yc yd ye yf hr=>have nd:=mq.nd;(az (yG (i:=2) (j:=3) (k:=4) rfl nd rfl rfl rfl (by decide) (by decide) (by decide) rfl rfl rfl (ak (aD aW aq (aB ya hr aR (ak (aj 0) (ak (aj 1) ao)))) (ak (aJ aO (bD (ak aq (ak aq (ak aq (ak aq (ak aq (ak aq ao))))))) (aB ya hr aR (ak (aj 0) (ak aq ao)))) (ak (aB ya hr aR (ak (aj 0) (ak aq ao))) ao))) rfl)
  (az (bh (i:=5) nd rfl (Or.inl rfl) (jr ao))
  (az (cY 0 PassesOwn.leaving rfl (aU rfl ye (ak (aj 2) ao)) (aH (i:=6) nd rfl (Or.inr rfl))
  (az (bh (i:=7) nd rfl (Or.inl rfl) (pR rfl yd ye (ak (aj 2) ao)))
  (az (bj (aM (bO hr.units) (aj 4) aq)
  (aA (bh (i:=7) nd rfl (Or.inl rfl) (bD (ak (aB ya hr aR (ak (aj 0) (ak (aj 2) ao))) (ak (aB ya hr aR (ak (aj 0) (ak (aj 2) ao))) ao)))))
  aN)
  (az (bj (aM (bO hr.units) (aj 4) aq)
  (aA (bh (i:=7) nd rfl (Or.inl rfl) (bD (ak (aD dY (aD aW (aj 6) aq) (aj 2)) ao))))
  aN)
  (az (bj (aM (bO hr.units) (aj 4) aq)
  (aA (bh (i:=7) nd rfl (Or.inl rfl) (aD aW (cz (own:=["_law_y"]) (js:=[6]) (fr:=["_law_x"]) .val rfl (by trivial) (aU rfl ye (ak (aj 2) ao)) (fun _ _ _ _ _ _=>(aH (i:=0) (fV ["_law_y", "_law_x"]) rfl (Or.inl rfl))) (fun _ _ _ _ _ _=>(cJ (aM (bQ hr.units) (aD dY (aj 0) aq) (aD dY (aj 1) aq)))) (fun _ _ _ _ _ _=>(aj 0))) (aD za (bD (ak (aj 6) ao)) (lK (T := "int") oE yb (ak (fO (bO hr.units) (aj 2) aq) ao))))))
  aN)
  (az (bj (aM (bO hr.units) (aj 4) aq)
  (aA (eX (i:=7) (own:=["_law_y"]) (js:=[6]) (fr:=["_law_x"]) .val nd rfl (Or.inl rfl) rfl (by trivial) (aU rfl ye (ak (aj 2) ao)) (fun _ _ _ _ _ _=>(aH (i:=0) (fV ["_law_y", "_law_x"]) rfl (Or.inl rfl))) (fun _ _ _ _ _ _=>(cJ (aM (bO hr.units) (aD jP (aj 0) aq) (aD jP (aj 1) aq)))) (fun _ _ _ _ _ _=>(aj 0))))
  aN)
  (az (bj (aM (bO hr.units) (aj 4) aq)
  (aA (bh (i:=7) nd rfl (Or.inl rfl) (pR rfl yd ye (ak (aD aW (aj 6) aq) ao))))
  aN)
  (az (bh (i:=8) nd rfl (Or.inl rfl) (aD zb (bD (ak aq ao)) (aj 2)))
  (az (cY 0 PassesOwn.leaving rfl (aU rfl ye (ak (aj 3) ao)) (aH (i:=9) nd rfl (Or.inl rfl))
  (aA (yF (aj 8) (aJ aO (aj 7) (aB ya hr aR (ak (aj 0) (ak (aL call_lenD yc (ak (aj 7) ao)) ao)))) xx aq)))
  (aA (mF (qd PySem.F.plainAttrs_list PySem.F.slot_list_append PySem.F.type_list_append mJ (aj 5) (ak (lK (T := "tuple") dN yf (ak (aj 8) ao)) ao)))))))))))))
  (aA (aF (lK (T := "tuple") dN yf (ak (aj 5) ao)))))))⟩
noncomputable def m8:=(je v0).1
abbrev jX:Stmt:=top 24
theorem nj:Sc ["_law_pen", "_law_some"] ["_law_pen"] jX:=dG
@[simp] noncomputable def jQ:Qe 2 ["_law_pen", "_law_some"] "_law_odd" jX fun D n Z=>D 2 "_law_draw" ["_law_pen", "_law_many"] v0->Z:=
 ⟨_,fun ya hr=>have nd:=nj.nd;(az (bh (i:=1) nd rfl (Or.inl rfl) (bD (ak jt (ak cF (ak cF (ak (oG aq) (ak aq (ak (aD tu aq aq) (ak qF (ak qF (ak (bf ao) (ak (bD ao) (ak yx (ak (bf (ak (bf ao) ao)) (ak (bf (ak aq ao)) (ak (bD (ak aq ao)) (ak (bf (ak aq (ak aq ao))) (ak qF (ak yz ao)))))))))))))))))))
  (aA (aF (aJ aO (aj 1) (aB ya hr aR (ak (aj 0) (ak aq ao)))))))⟩
noncomputable def oh:=(jQ v0).1
abbrev fL:Stmt:=top 25
theorem iB:Sc ["_law_pen", "_law_thing", "_law_way_here", "_law_at"] ["_law_pen", "_law_thing"] fL:=dG
@[simp] noncomputable def iZ(v0 v1 v2:Fn):{b // ∀{P w K mg base f cdv A outer s H E k_} (hk_:3≤k_) (ya:DefD P w K mg base 2 "_law_draw" ["_law_pen", "_law_many"] v0) (yb:DefD P w K mg base 3 "_law_odd" ["_law_pen"] v1) (yc:DefD P w K mg base k_ "_law_bent" ["_law_pen", "_law_thing"] v2) (yd:Nn mg "int") (ye:Nn mg "isinstance") (yf:Nn mg "len") (yg:Nn mg "list") (yh:Nn mg "tuple") (hq_:Rm k_ A "_law_bent" fL s f cdv),Ds P w K mg base ["_law_pen", "_law_thing", "_law_way_here", "_law_at"] "_law_bent" fL f cdv A outer s H E b}:=
 ⟨_,fun hk_ ya yb yc yd ye yf yg yh hq_=>have hr:=hq_.mono hk_;have nd:=iB.nd;(az (bh (i:=2) nd rfl (Or.inl rfl) (aB ya hr aR (ak (aj 0) (ak aq ao))))
  (az (bj (bB (aX (aL bA ye (ak (aj 1) (ak (cX (T := "tuple") yh) ao))) (fun _=>rfl)))
  (az (bj (DW.dt (vy (aX (aL bA ye (ak (aj 1) (ak (cX (T := "int") yd) ao))) (fun _=>rfl)) (sy (aM jC (aj 2) aq))))
  (aA (aF (aJ aO (bD (ak (aD sY (aj 1) aq) (ak (aD tE (aj 1) aq) (ak (aD tE aq (aj 1)) (ak cF (ak (aD sY (aj 1) aq) ao)))))) (aj 2))))
  aN)
  (aA (aF (aB yb hr aR (ak (aj 0) ao)))))
  aN)
  (az (bj (DW.dt (bZ (aM (yW hr.units) (aj 1) (bf ao)) (cL (aM (bO hr.units) (aj 2) aq))))
  (aA (aF (aJ aO (bD (ak (lK (T := "list") uf yg (ak (aj 1) ao)) (ak (aD aW (aj 1) (bf (ak (aB yb hr aR (ak (aj 0) ao)) ao))) (ak (aB yb hr aR (ak (aj 0) ao)) (ak (zT (aj 1)) (ak (dD (aj 1) (cP aq) eV) ao)))))) (aB ya hr aR (ak (aj 0) (ak aq ao))))))
  aN)
  (az (bh (i:=3) nd rfl (Or.inl rfl) (aB ya hr aR (ak (aj 0) (ak (aL call_lenD yf (ak (aj 1) ao)) ao))))
  (az (bj (aM (bO hr.units) (aj 2) aq)
  (aA (aF (aD aW (dD (aj 1) eV (cP (aj 3))) (dD (aj 1) (cP (aD aW (aj 3) aq)) eV))))
  aN)
  (az (bj (aM (bO hr.units) (aj 2) aq)
  (aA (aF (aD aW (aD aW (dD (aj 1) eV (cP (aj 3))) (dD (aj 1) (cP (aj 3)) (cP (aD aW (aj 3) aq)))) (dD (aj 1) (cP (aj 3)) eV))))
  aN)
  (aA (aF (aD aW (aD aW (dD (aj 1) eV (cP (aj 3))) (bf (ak (aB yc hq_ aR (ak (aj 0) (ak (aJ aO (aj 1) (aj 3)) ao)) (Nat.le_refl _)) ao))) (dD (aj 1) (cP (aD aW (aj 3) aq)) eV))))))))))⟩
noncomputable def mW:=(iZ v0 v1 v2).1
abbrev iy:Stmt:=top 26
theorem qb:Sc ["_law_thing"] ["_law_thing"] iy:=dG
@[simp] noncomputable def lQ:Qe 0 ["_law_thing"] "_law_whole" iy fun D n Z=>n "bool"->n "int"->n "isinstance"->Z:=
 ⟨_,fun ya yb yc hr=>(aA (aF (lH (aL bA yc (ak (aj 0) (ak (cX (T := "int") yb) ao))) (lJ (vd (aL bA yc (ak (aj 0) (ak (cX (T := "bool") ya) ao))))))))⟩
noncomputable def gU:=(lQ).1
abbrev gj:Stmt:=top 27
theorem pG:Sc ["_law_rows_here", "_law_thing", "_law_steps", "_law_start", "_law_last"] ["_law_rows_here", "_law_thing", "_law_steps", "_law_start", "_law_last"] gj:=dG
@[simp] noncomputable def kY:Qe 1 ["_law_rows_here", "_law_thing", "_law_steps", "_law_start", "_law_last"] "_law_is_way" gj fun D n Z=>D 1 "_law_whole" ["_law_thing"] v0->n "isinstance"->n "len"->n "range"->n "tuple"->Z:=
 ⟨_,fun ya yb yc yd ye hr=>(az (bj (DW.dt (bZ (bB (aX (aL bA yb (ak (aj 1) (ak (cX (T := "tuple") ye) ao))) (fun _=>rfl))) (cL (aM (bQ hr.units) (aL call_lenD yc (ak (aj 1) ao)) (aD aW (aj 2) aq)))))
  (aA (aF cF))
  aN)
  (az (bj (aM (bQ hr.units) (cz (own:=["_law_one"]) (js:=[0]) (fr:=["_law_rows_here"]) .val rfl (by trivial) (fQ (aj 1)) (fun _ _ _ _ _ _=>(aH (i:=0) (fV ["_law_one", "_law_rows_here"]) rfl (Or.inl rfl))) (fun _ _ _ _ _ _=>(cJ (DW.dt (bZ (bB (aX (aB ya hr dR (ak (aj 0) ao)) (fun _=>rfl))) (cL (bB (nu lO jC aq (aj 0) (aL call_lenD yc (ak (aj 1) ao))))))))) (fun _ _ _ _ _ _=>aq)) (bD ao))
  (aA (aF cF))
  aN)
  (az (bj (DW.dt (bZ (aM (bQ hr.units) (aJ aO (aj 1) aq) (aj 3)) (cL (aM (bQ hr.units) (aJ aO (aj 1) (aj 2)) (aj 4)))))
  (aA (aF cF))
  aN)
  (aA (aF (fO (bO hr.units) (cz (own:=["_law_at"]) (js:=[0,1]) (fr:=["_law_rows_here", "_law_thing"]) .val rfl (by trivial) (aU rfl yd (ak (aj 2) ao)) (fun _ _ _ _ _ _=>(aH (i:=0) (fV ["_law_at", "_law_rows_here", "_law_thing"]) rfl (Or.inl rfl))) (fun _ _ _ _ _ _=>(cJ (aM (bO hr.units) (aJ aO (aJ aO (aj 1) (aJ aO (aj 2) (aj 0))) (aJ aO (aj 2) (aD aW (aj 0) aq))) aq))) (fun _ _ _ _ _ _=>(aj 0))) (bD ao)))))))⟩
noncomputable def bH:=(kY v0).1
abbrev dM:Stmt:=top 28
theorem lZ:Sc ["_law_rows_here", "_law_thing"] ["_law_rows_here", "_law_thing"] dM:=dG
@[simp] noncomputable def gC:Qe 2 ["_law_rows_here", "_law_thing"] "_law_is_meeting" dM fun D n Z=>D 1 "_law_whole" ["_law_thing"] v0->D 2 "_law_is_way" ["_law_rows_here", "_law_thing", "_law_steps", "_law_start", "_law_last"] v1->n "all"->n "enumerate"->n "isinstance"->n "len"->n "tuple"->Z:=
 ⟨_,fun ya yb yc yd ye yf yg hr=>(az (bj (DW.dt (bZ (bB (aX (aL bA ye (ak (aj 1) (ak (cX (T := "tuple") yg) ao))) (fun _=>rfl))) (bZ (aM (bQ hr.units) (aL call_lenD yf (ak (aj 1) ao)) aq) (bZ (bB (aX (aB ya hr aR (ak (aJ aO (aj 1) aq) ao)) (fun _=>rfl))) (cL (aM jC (aJ aO (aj 1) aq) aq))))))
  (aA (aF cF))
  aN)
  (az (bj (DW.dt (bZ (bB (aX (aB ya hr aR (ak (aJ aO (aj 1) aq) ao)) (fun _=>rfl))) (bZ (bB (nu lO jC aq (aJ aO (aj 1) aq) (aL call_lenD yf (ak (aj 0) ao)))) (cL (bB (aX (aL bA ye (ak (aJ aO (aj 1) aq) (ak (cX (T := "tuple") yg) ao))) (fun _=>rfl)))))))
  (aA (aF cF))
  aN)
  (az (bj (aM (bQ hr.units) (aL call_lenD yf (ak (aJ aO (aj 1) aq) ao)) (aL call_lenD yf (ak (aj 0) ao)))
  (aA (aF cF))
  aN)
  (aA (aF (aL (dC hr.hd) yc (ak (cz (own:=["_law_start", "_law_way_here"]) (js:=[0,1]) (fr:=["_law_rows_here", "_law_thing"]) .val rfl (by trivial) (yD rfl yd (ak (aJ aO (aj 1) aq) ao)) (fun _ _ _ _ _ _=>(lL (n:=2) rfl (cA (aH (i:=0) (fV ["_law_start", "_law_way_here", "_law_rows_here", "_law_thing"]) rfl (Or.inl rfl)) (cA (aH (i:=1) (fV ["_law_start", "_law_way_here", "_law_rows_here", "_law_thing"]) rfl (Or.inl rfl)) ju)))) (fun _ _ _ _ _ _=>jx) (fun _ _ _ _ _ _=>(aB yb hr dR (ak (aj 2) (ak (aj 1) (ak (aJ aO (aj 3) aq) (ak (aj 0) (ak (aJ aO (aj 3) aq) ao)))))))) ao)))))))⟩
noncomputable def aK:=(gC v0 v1).1
abbrev iu:Stmt:=top 29
theorem lg:Sc ["_law_rows_here", "_law_lands", "_law_many", "_law_steps", "_law_shared", "_law_later", "_law_some"] ["_law_rows_here"] iu:=dG
@[simp] noncomputable def ie:Qe 0 ["_law_rows_here", "_law_lands", "_law_many", "_law_steps", "_law_shared", "_law_later", "_law_some"] "_law_first" iu fun D n Z=>n "len"->n "range"->Z:=
 ⟨_,fun ya yb hr=>have nd:=lg.nd;(az (jw (bf (ak (cz (own:=["_law_x"]) (js:=[]) (fr:=[]) .sto rfl (by trivial) (aU rfl yb (ak (aL call_lenD ya (ak (aj 0) ao)) ao)) (fun _ _ _ _ _ _=>(aH (i:=0) (fV ["_law_x"]) rfl (Or.inl rfl))) (fun _ _ _ _ _ _=>jx) (fun _ _ _ _ _ _=>(bD (ak (aj 0) ao)))) (ak (aL call_lenD ya (ak (aj 0) ao)) ao))) (lL (n:=2) rfl (cA (aH (i:=1) nd rfl (Or.inr rfl)) (cA (aH (i:=2) nd rfl (Or.inl rfl)) ju))))
  (az (cY 0 PassesOwn.leaving rfl (aU rfl yb (ak (aD aW (aD pC (aD eY (aj 2) aq) (aD eY (aj 2) aq)) aq) ao)) (aH (i:=3) nd rfl (Or.inl rfl))
  (az (eX (i:=4) (own:=["_law_y"]) (js:=[1]) (fr:=["_law_lands"]) .val nd rfl (Or.inl rfl) rfl (by trivial) (aU rfl yb (ak (aj 2) ao)) (fun _ _ _ _ _ _=>(aH (i:=0) (fV ["_law_y", "_law_lands"]) rfl (Or.inr rfl))) (fun _ _ _ _ _ _=>(cJ (aM (bO hr.units) (cz (own:=["_law_some"]) (js:=[0]) (fr:=["_law_y"]) .val rfl (by trivial) (eE (aj 1)) (fun _ _ _ _ _ _=>(aH (i:=0) (fV ["_law_some", "_law_y"]) rfl (Or.inl rfl))) (fun _ _ _ _ _ _=>(cJ (aM sZ (aj 1) (aj 0)))) (fun _ _ _ _ _ _=>aq)) (bD ao)))) (fun _ _ _ _ _ _=>(aj 0)))
  (az (bj (aM (bQ hr.units) (aj 4) (bD ao))
  (aA (aF (bf (ak (aj 3) (ak (aJ aO (aj 4) aq) ao)))))
  aN)
  (az (bh (i:=5) nd rfl (Or.inl rfl) (jr ao))
  (az (cY 20 PassesOwn.leaving rfl (eE (aj 1)) (aH (i:=6) nd rfl (Or.inr rfl))
  (aA (mF (qd PySem.F.plainAttrs_list PySem.F.slot_list_append PySem.F.type_list_append mJ (aj 5) (ak (cz (own:=["_law_y"]) (js:=[6,0]) (fr:=["_law_some", "_law_rows_here"]) .val rfl (by trivial) (aU rfl yb (ak (aj 2) ao)) (fun _ _ _ _ _ _=>(aH (i:=0) (fV ["_law_y", "_law_some", "_law_rows_here"]) rfl (Or.inr rfl))) (fun _ _ _ _ _ _=>(cJ (aM (bQ hr.units) (cz (own:=["_law_x"]) (js:=[2,0]) (fr:=["_law_rows_here", "_law_y"]) .val rfl (by trivial) (eE (aj 1)) (fun _ _ _ _ _ _=>(aH (i:=0) (fV ["_law_x", "_law_rows_here", "_law_y"]) rfl (Or.inl rfl))) (fun _ _ _ _ _ _=>(cJ (aM jB (aJ aO (aJ aO (aj 1) (aj 0)) (aj 2)) aq))) (fun _ _ _ _ _ _=>(aj 0))) (bD ao)))) (fun _ _ _ _ _ _=>(aj 0))) ao)))))
  (aA (bh (i:=1) nd rfl (Or.inr rfl) (aj 5))))))))
  (aA (aF jt))))⟩
noncomputable def lC:=(ie).1
abbrev jY:Stmt:=top 30
theorem nq:Sc ["_law_pen", "_law_rows_here", "_law_start", "_law_last", "_law_steps", "_law_left", "_law_turn", "_law_found", "_law_some"] ["_law_pen", "_law_rows_here", "_law_start", "_law_last", "_law_steps"] jY:=dG
@[simp] noncomputable def jR:Qe 2 ["_law_pen", "_law_rows_here", "_law_start", "_law_last", "_law_steps", "_law_left", "_law_turn", "_law_found", "_law_some"] "_law_way" jY fun D n Z=>D 2 "_law_draw" ["_law_pen", "_law_many"] v0->n "len"->n "range"->n "tuple"->Z:=
 ⟨_,fun ya yb yc yd hr=>have nd:=nq.nd;(az (bh (i:=5) nd rfl (Or.inr rfl) (jr (ak (bD (ak (aj 3) ao)) ao)))
  (az (cY 0 PassesOwn.leaving rfl (aU rfl yc (ak (aj 4) ao)) (aH (i:=6) nd rfl (Or.inl rfl))
  (aA (mF (qd PySem.F.plainAttrs_list PySem.F.slot_list_append PySem.F.type_list_append mJ (aj 5) (ak (cz (own:=["_law_x"]) (js:=[5,1]) (fr:=["_law_left", "_law_rows_here"]) .val rfl (by trivial) (aU rfl yc (ak (aL call_lenD yb (ak (aj 1) ao)) ao)) (fun _ _ _ _ _ _=>(aH (i:=0) (fV ["_law_x", "_law_left", "_law_rows_here"]) rfl (Or.inr rfl))) (fun _ _ _ _ _ _=>(cJ (aM (bQ hr.units) (cz (own:=["_law_y"]) (js:=[2,0]) (fr:=["_law_rows_here", "_law_x"]) .val rfl (by trivial) (eE (aJ aO (aj 1) (oG aq))) (fun _ _ _ _ _ _=>(aH (i:=0) (fV ["_law_y", "_law_rows_here", "_law_x"]) rfl (Or.inl rfl))) (fun _ _ _ _ _ _=>(cJ (aM jB (aJ aO (aJ aO (aj 1) (aj 2)) (aj 0)) aq))) (fun _ _ _ _ _ _=>(aj 0))) (bD ao)))) (fun _ _ _ _ _ _=>(aj 0))) ao)))))
  (az (bj (aM sZ (aj 2) (aJ aO (aj 5) (aj 4)))
  (aA (aF jt))
  aN)
  (az (bh (i:=7) nd rfl (Or.inr rfl) (jr (ak (aj 2) ao)))
  (az (cY 0 PassesOwn.leaving rfl (aU rfl yc (ak (aj 4) ao)) (aH (i:=6) nd rfl (Or.inl rfl))
  (az (eX (i:=8) (own:=["_law_y"]) (js:=[1,7]) (fr:=["_law_rows_here", "_law_found"]) .val nd rfl (Or.inl rfl) rfl (by trivial) (eE (aJ aO (aj 5) (aD eY (aD eY (aj 4) aq) (aj 6)))) (fun _ _ _ _ _ _=>(aH (i:=0) (fV ["_law_y", "_law_rows_here", "_law_found"]) rfl (Or.inl rfl))) (fun _ _ _ _ _ _=>(cJ (aM jB (aJ aO (aJ aO (aj 1) (aJ aO (aj 2) (oG aq))) (aj 0)) aq))) (fun _ _ _ _ _ _=>(aj 0)))
  (aA (mF (qd PySem.F.plainAttrs_list PySem.F.slot_list_append PySem.F.type_list_append mJ (aj 7) (ak (aJ aO (aj 8) (aB ya hr aR (ak (aj 0) (ak (aL call_lenD yb (ak (aj 8) ao)) ao)))) ao))))))
  (aA (aF (lK (T := "tuple") dN yd (ak (aj 7) ao)))))))))⟩
noncomputable def ou:=(jR v0).1
abbrev fG:Stmt:=top 31
theorem iV:Sc ["_law_pen", "_law_rows_here", "_law_more", "_law_first_here", "_law_ways", "_law_steps", "_law_last", "_law_turn", "_law_some"] ["_law_pen", "_law_rows_here", "_law_more"] fG:=dG
@[simp] noncomputable def eZ:Qe 3 ["_law_pen", "_law_rows_here", "_law_more", "_law_first_here", "_law_ways", "_law_steps", "_law_last", "_law_turn", "_law_some"] "_law_meeting" fG fun D n Z=>D 1 "_law_first" ["_law_rows_here"] v0->D 3 "_law_way" ["_law_pen", "_law_rows_here", "_law_start", "_law_last", "_law_steps"] v1->D 2 "_law_draw" ["_law_pen", "_law_many"] v2->n "len"->n "range"->n "tuple"->Z:=
 ⟨_,fun ya yb yc yd ye yf hr=>have nd:=iV.nd;(az (bh (i:=3) nd rfl (Or.inr rfl) (aB ya hr aR (ak (aj 1) ao)))
  (az (bj (aM Bc (aj 3) jt)
  (aA (aF jt))
  aN)
  (az (eX (i:=4) (own:=["_law_start"]) (js:=[0,1,3]) (fr:=["_law_pen", "_law_rows_here", "_law_first_here"]) .val nd rfl (Or.inl rfl) rfl (by trivial) (aU rfl ye (ak (aL call_lenD yd (ak (aj 1) ao)) ao)) (fun _ _ _ _ _ _=>(aH (i:=0) (fV ["_law_start", "_law_pen", "_law_rows_here", "_law_first_here"]) rfl (Or.inl rfl))) (fun _ _ _ _ _ _=>jx) (fun _ _ _ _ _ _=>(aB yb hr dR (ak (aj 1) (ak (aj 2) (ak (aj 0) (ak (aJ aO (aj 3) aq) (ak (aJ aO (aj 3) aq) ao))))))))
  (az (jw (aj 3) (lL (n:=2) rfl (cA (aH (i:=5) nd rfl (Or.inl rfl)) (cA (aH (i:=6) nd rfl (Or.inr rfl)) ju))))
  (az (cY 0 PassesOwn.leaving rfl (aU rfl ye (ak (aj 2) ao)) (aH (i:=7) nd rfl (Or.inl rfl))
  (az (eX (i:=8) (own:=["_law_y"]) (js:=[1,6]) (fr:=["_law_rows_here", "_law_last"]) .val nd rfl (Or.inl rfl) rfl (by trivial) (aU rfl ye (ak (aL call_lenD yd (ak (aj 1) ao)) ao)) (fun _ _ _ _ _ _=>(aH (i:=0) (fV ["_law_y", "_law_rows_here", "_law_last"]) rfl (Or.inl rfl))) (fun _ _ _ _ _ _=>(cJ (aM jB (aJ aO (aJ aO (aj 1) (aj 2)) (aj 0)) aq))) (fun _ _ _ _ _ _=>(aj 0)))
  (az (bh (i:=6) nd rfl (Or.inr rfl) (aJ aO (aj 8) (aB yc hr aR (ak (aj 0) (ak (aL call_lenD yd (ak (aj 8) ao)) ao)))))
  (aA (vp (i:=5) (j:=4) rfl nd rfl rfl (by decide) rfl rfl (ak (aD aW (aj 5) aq) (ak (lG "_law_way_here" [6] ["_law_last"] (eE (aj 4)) (aD aW (aj 0) (bf (ak (aj 1) ao)))) ao)) rfl)))))
  (aA (aF (bf (ak (aj 5) (ak (aj 6) (ak (lK (T := "tuple") dN yf (ak (aj 4) ao)) ao)))))))))))⟩
noncomputable def jq:=(eZ v0 v1 v2).1
abbrev uI:Stmt:=top 32
theorem ww:Sc ["_law_script", "_law_cell", "_law_pen", "_law_turn", "_law_rows_here", "_law_walk", "_law_some", "_law_stay", "_law_things", "_law_thing", "_law_lap", "_law_bent_here", "_law_kept", "_law_due"] ["_law_script"] uI:=dG
@[simp] noncomputable def uC:Qd 11 ["_law_script", "_law_cell", "_law_pen", "_law_turn", "_law_rows_here", "_law_walk", "_law_some", "_law_stay", "_law_things", "_law_thing", "_law_lap", "_law_bent_here", "_law_kept", "_law_due"] "law" uI fun P w K m o Z=>DefD P w K m o 1 "_law_cell_at" ["_law_script", "_law_k"] v0->DefD P w K m o 1 "_law_pen_of" ["_law_cell"] v1->DefD P w K m o 3 "_law_rows" ["_law_pen", "_law_most"] v2->DefD P w K m o 2 "_law_draw" ["_law_pen", "_law_many"] v3->DefD P w K m o 4 "_law_meeting" ["_law_pen", "_law_rows_here", "_law_more"] v4->DefD P w K m o 3 "_law_odd" ["_law_pen"] v5->DefD P w K m o 11 "_law_bent" ["_law_pen", "_law_thing"] v6->DefD P w K m o 3 "_law_is_meeting" ["_law_rows_here", "_law_thing"] v7->DefD P w K m o 4 "is_meeting" ["walk", "thing"] v8->ClsD P w K m o 5 "Walk" v9->Nn m "len"->Nn m "range"->Nn m "repr"->Nn m "tuple"->Z:=
 ⟨_,fun ya yb yc yd ye yf yg yh yi yj yk yl ym yn hr=>have nd:=ww.nd;(az (cY 0 PassesOwn.leaving rfl (eE (aD aW (bD (ak (aB ya hr aR (ak (aj 0) (ak aq ao))) ao)) (vf (aj 0) (cP aq) (cP aq)))) (aH (i:=1) nd rfl (Or.inl rfl))
  (az (bh (i:=2) nd rfl (Or.inr rfl) (aB yb hr aR (ak (aj 1) ao)))
  (aA (cY 0 PassesOwn.leaving rfl (aU rfl yl (ak aq ao)) (aH (i:=3) nd rfl (Or.inl rfl))
  (az (bh (i:=4) nd rfl (Or.inr rfl) (aB yc hr aR (ak (aj 2) (ak aq ao))))
  (az (jw (bf (ak (yC yj hr aR (ak (aj 4) ao)) (ak (lG "_law_more" [2,4] ["_law_pen", "_law_rows_here"] (fQ (bf (ak aq (ak aq (ak (aB yd hr aR (ak (aj 2) (ak aq ao))) ao))))) (aB ye hr dR (ak (aj 1) (ak (aj 2) (ak (aj 0) ao))))) ao))) (lL (n:=2) rfl (cA (aH (i:=5) nd rfl (Or.inr rfl)) (cA (aH (i:=6) nd rfl (Or.inl rfl)) ju))))
  (az (bh (i:=7) nd rfl (Or.inl rfl) (bf (ak aq (ak aq (ak (lK (T := "tuple") dN yn (ak (lG "_law_x" [] [] (aU rfl yl (ak (aL call_lenD yk (ak (aj 4) ao)) ao)) (bf (ak (aj 0) ao))) ao)) ao)))))
  (az (bh (i:=8) nd rfl (Or.inl rfl) (aD aW (aj 6) (bD (ak (aj 7) (ak (bf (ak aq (ak aq (ak (aD zc (bf (ak (bf (ak aq (ak aq ao))) ao)) (aL call_lenD yk (ak (aj 4) ao))) ao)))) (ak (bf (ak (bf (ak (bf (ak aq ao)) ao)) (ak (bf (ak (bf (ak aq ao)) ao)) ao))) (ak jt (ak (bf ao) (ak (aB yf hr aR (ak (aj 2) ao)) ao)))))))))
  (az (cY 0 PassesOwn.leaving rfl (eE (aj 6)) (aH (i:=9) nd rfl (Or.inr rfl))
  (aA (cY 0 PassesOwn.leaving rfl (aU rfl yl (ak aq ao)) (aH (i:=10) nd rfl (Or.inl rfl))
  (az (bh (i:=11) nd rfl (Or.inl rfl) (aB yg hr aR (ak (aj 2) (ak (aj 9) ao))))
  (aA (bh (i:=8) nd rfl (Or.inl rfl) (aD aW (aj 8) (bD (ak (aj 11) (ak (aB yg hr aR (ak (aj 2) (ak (aj 11) ao))) ao))))))))))
  (aA (cY 0 PassesOwn.leaving rfl (eE (aj 8)) (aH (i:=9) nd rfl (Or.inr rfl))
  (az (vp (i:=12) (j:=13) rfl nd rfl rfl (by decide) rfl rfl (ak (aL (gG hr.gd hr.units) ym (ak (aj 9) ao)) (ak (aB yh hr aR (ak (aj 4) (ak (aj 9) ao))) ao)) rfl)
  (aA (bj (DW.dt (bZ (aM (bQ hr.units) (aL (gG hr.gd hr.units) ym (ak (lG "_law_lap" [5,9] ["_law_walk", "_law_thing"] (aU rfl yl (ak aq ao)) (aB yi hr dR (ak (aj 1) (ak (aj 2) ao)))) ao)) (aL (gG hr.gd hr.units) ym (ak (bD (ak (aj 13) (ak (aj 13) ao))) ao))) (cL (aM (bQ hr.units) (aL (gG hr.gd hr.units) ym (ak (aj 9) ao)) (aj 12)))))
  (aA (aF cF))
  aN))))))))))))))
  (aA (aF cF)))⟩
noncomputable def xV:=(uC v0 v1 v2 v3 v4 v5 v6 v7 v8 v9).1
end
end K
namespace K
open PySem L2 L3 N10
theorem dm:(∀(α:Type) (a:α) (l:List α),(a::l)[0]?=some a)∧(∀(α:Type) (a:α) (l:List α) (i:Nat),(a::l)[i+1]?=l[i]?)∧(∀(α:Type) (x:Option α),(some x).join=x)∧(∀(α:Type) (a:α),(opt (some a):DM α)=pure a)∧∀(α β:Type) (a:α) (f:α->DM β),((pure a:DM α)>>=f)=f a:=⟨fun _ _ _=>rfl,fun _ _ _ _=>rfl,fun _ _=>rfl,fun _ _=>ir _,fun _ _ _ _=>au _ _⟩
theorem gZ:(∀(α:Type) (a b:α) (l:List α) (i:Nat),(a::l).set (i+1) b=a::l.set i b)∧∀(α:Type) (a b:α) (l:List α),(a::l).set 0 b=b::l:=⟨fun _ _ _ _ _=>rfl,fun _ _ _ _=>rfl⟩
noncomputable def kj:=aP 1 1 gF
noncomputable def rW:=aP 2 2 (kO kj)
theorem Ai(n:Nat):kj [nD n]=pure (.bl true):=by
 have a:(rd (fY [nD n,.ty "int"]):DM D)=pure (.bl true):=b7 (t := "int") (fun _=>rfl) (by decide)
 have b:(rd (fY [nD n,.ty "bool"]):DM D)=pure (.bl false):=b7 (t := "int") (fun _=>rfl) (by decide)
 simp[kj,gF,a,b]
theorem zO {l:List Nat} (hl:l.length≤1000):rW [nT l,.int (l.length:Int)]=pure (.bl true):=by
 have a:(rd (fY [nT l,.ty "tuple"]):DM D)=pure (.bl true):=b7 (t := "tuple") (fun _=>rfl) (by decide)
 have ln:(rd (fZ [nT l]):DM D)=pure (.int (l.length:Int)):=by simp[nT]
 simp[rW,kO,a,ln,aQ,bz]
 show (dj (bx _ _ _ (l.map nD) _ _)>>=_)=_
 rw[BV (fun _=>true) (fun _=>.bl true) (by simpa using Nat.le_trans hl (by decide)) (fun _ _=>rfl) (fun d hd _=>?_) (k':=fun l=>rd (gR [.lst l])) (fun _=>rfl)]
 ·have:((l.map nD).filter (fun _=>true)).map (fun _=>D.bl true)=(l.map fun _=>true).map D.bl:=by
   rw[List.filter_eq_self.mpr (fun _ _=>rfl),List.map_map,List.map_map];rfl
  have q:(l.map fun _=>true).all id=true:=by rw[List.all_eq_true];intro x hx;obtain⟨_,_,rfl⟩:=List.mem_map.mp hx;rfl
  rw[this,jF,q]
 ·obtain⟨n,_,rfl⟩:=List.mem_map.mp hd
  have:=Ai n
  unfold nD at this ⊢
  simp[this]
noncomputable def qw:=aP 2 2 eQ
theorem zP (cs:List Int) (k:Nat):∃ c:Int,qw [.scr cs,nD k]=pure (.int c):=by
 by_cases h:k<cs.length
 ·have e:decide ((k:Int)<(cs.length:Int))=true:=decide_eq_true (by omega)
  have ix:(rd (aY (.scr cs) (.int (k:Int))):DM D)=pure (.int cs[k]):=bR fun M=>by
   show (atI cs (k:Int)).map _=_
   rw[lB (List.getElem?_eq_getElem h)];rfl
  refine⟨cs[k],?_⟩
  simp[qw,eQ,nD,e,ix,h]
 ·have e:decide ((k:Int)<(cs.length:Int))=false:=decide_eq_false (by omega)
  refine⟨0,?_⟩
  simp[qw,eQ,nD,e,h]
theorem aG{f g:aa->DM Fl}{δ:aa}{M:Mo}{Q:Fl->Mo->Prop}(h:∀K:Fl->DM Fl,(∀δ',K (.nx δ')=g δ')->Rn (f δ>>=K) M Q):Rn (uJ f g δ) M Q:=by
 have:=h (fun r=>match r with | .nx δ'=>g δ' | r=>Pure.pure r) (fun _=>rfl)
 exact this
structure WK(R:List (List Nat))(W:Nat):Prop where
 n1:1≤R.length
 n25:R.length≤25
 row:∀r∈R,r.length=R.length
 sum:∀r∈R,r.sum=W
 w1:1≤W
theorem WK.head{R:List (List Nat)}{W:Nat}(h:WK R W):gr R 0∈R:=gr_mem (by have:=h.n1;omega)
noncomputable def uO:=aP 2 2 (oA rW)
noncomputable def uP:=aP 1 2 (iH uO)
theorem yw{l:List Nat}{n:Nat}(h:l.length=n)(hl:n≤1000):rW [nT l,nD n]=pure (.bl true):=by
 subst h
 exact zO hl
theorem qD(n:Nat):(rd (gR [.lst (List.replicate n (.bl true))]):DM D)=pure (.bl true):=by
 have:=jF (List.replicate n true)
 rw[List.map_replicate] at this
 rw[this];simp
theorem pX{α:Type}(l:List α)(d:D):(l.map fun _=>d)=List.replicate l.length d:=List.map_const' ..
theorem zN{R:List (List Nat)}{W:Nat}(h:WK R W):uO [nM R,nD R.length]=pure (.bl true):=by
 have:=h.n25
 simp[uO,oA,vW,cO,lX,vR,aQ,bz]
 rw[fJ nT (fun _=>.bl true) (by omega) (fun r hr=>by simp[yw (h.row r hr) (by omega)])]
 rw[au,pX,qD]
theorem zR{R:List (List Nat)}{W:Nat}(h:WK R W):uP [nM R]=pure (.bl true):=by
 have h1:=h.n1
 have h2:=h.n25
 have e1:(rd (pW (.int 1) (nD R.length)):DM D)=pure (.bl true):=by rw[show D.int 1=nD 1 from rfl,vY,decide_eq_true h1]
 have e2:(rd (pW (nD R.length) (.int 25)):DM D)=pure (.bl true):=by rw[show D.int 25=nD 25 from rfl,vY,decide_eq_true h2]
 have e3:(rd (vC (nD W) (.int 1)):DM D)=pure (.bl true):=by rw[show D.int 1=nD 1 from rfl,vV,decide_eq_true h.w1]
 have e4:∀r∈R,(rd (bW (nD r.sum) (nD W)):DM D)=pure (.bl true):=fun r hr=>by rw[bM,h.sum r hr];simp
 simp[uP,iH,vW,cO,e1,e2,zN h,vX (R:=R) (by omega),h.sum _ h.head]
 simp[e3,vR,aQ,bz]
 rw[fJ nT (fun _=>.bl true) (by omega) (fun r hr=>by simp[e4 r hr])]
 rw[au,pX,qD]
noncomputable def bU(R:List (List Nat))(W:Nat):D:=.obj "Walk" ["rows", "whole"] [nM R,nD W]
noncomputable def Fin:=aP 2 2 (iG uP)
theorem tQ{M:Mo}{ns:List Str}{vs:List D}{f:Str}{d:D}(hl:ns.length=vs.length)(hz:ns.length<1000):qm "Walk" f (.ref M.length) d (M++[.ins "Walk" ns vs])=some (.ok (),M++[.ins "Walk" (putN f ns) (g8 f d ns vs)]):=by
 unfold qm
 simp[hl]
 omega
theorem Ac{R:List (List Nat)}{W:Nat}(h:WK R W)(M:Mo):Fin (.ref M.length::[nM R]) (M++[.ins "Walk" [] []])=some (.ok .non,M++[.ins "Walk" ["rows", "whole"] [nM R,nD W]]):=by
 have h1:=h.n1
 have go:Rn (Fin (.ref M.length::[nM R])) (M++[.ins "Walk" [] []]) fun d M'=>d=.non∧M'=M++[.ins "Walk" ["rows", "whole"] [nM R,nD W]]:=by
  simp[Fin,iG,zR h,vX (R:=R) (by omega)]
  refine Rn.run (tQ rfl (by decide)) ?_
  rw[h.sum _ h.head]
  refine Rn.run (tQ rfl (by decide)) ?_
  exact Rn.pure ⟨rfl,rfl⟩
 obtain⟨d,M',e,rfl,rfl⟩:=go
 exact e
open Classical in
noncomputable def qu(ds:List D):DM D:=if h:∃p:List (List Nat)×Nat,WK p.1 p.2∧ds=[nM p.1] then pure (bU (choose h).1 (choose h).2) else stuck
theorem Bx{R:List (List Nat)}{W:Nat}(h:WK R W):qu [nM R]=pure (bU R W):=by
 have q:∃p:List (List Nat)×Nat,WK p.1 p.2∧[nM R]=[nM p.1]:=⟨(R,W),h,rfl⟩
 unfold qu
 rw[dif_pos q]
 obtain⟨a,b⟩:=Classical.choose_spec q
 generalize Classical.choose q=p at a b
 have e:R=p.1:=Aw (by simpa using b)
 have w:W=p.2:=by
  have:=h.sum _ h.head
  rw[←this,e]
  exact a.sum _ a.head
 rw[←e,←w]
theorem By:∀ds M r',qu ds M=some r'->zL "Walk" Fin ds M r':=by
 intro ds M r' e
 unfold qu at e
 split at e
 ·rename_i q
  obtain⟨a,b⟩:=Classical.choose_spec q
  generalize Classical.choose q=p at a b e
  subst b
  cases e
  refine .inl ⟨["rows", "whole"],[nM p.1,nD p.2],Ac a M,fun d hd=>?_,rfl⟩
  rcases List.mem_cons.mp hd with rfl | hd
  ·exact .inl (by simp)
  ·exact .inr ⟨p.2,by simpa[nD] using hd⟩
 ·cases e
theorem qI(R:List (List Nat))(W:Nat):(rd (qH "Walk" "rows" (bU R W)):DM D)=pure (nM R):=bR fun M=>by simp[qH,bU]
noncomputable def lz:=aP 1 1 jo
theorem Am(R:List (List Nat))(W:Nat):lz [bU R W]=pure (nD R.length):=by
 simp[lz,jo,qI,cO]
theorem sU{R:List (List Nat)}{W:Nat}(h:R.length≤25):qQ "Walk" lz [bU R W]=pure (nD R.length):=by
 have e:qQ "Walk" lz [bU R W]=(if ("Walk":Str) = "Walk" then lz [bU R W]>>=uo else stuck):=rfl
 rw[e,if_pos rfl,Am,au]
 have q:(0:Int)≤(R.length:Int)∧(R.length:Int)<2^63:=⟨by omega,by omega⟩
 unfold uo nD
 dsimp only
 rw[if_pos q]
noncomputable def mV:=aP 2 2 (gD kj)
theorem vG(b:Bool):(rd (ut [.bl b]):DM D)=pure (nD (if b then 1 else 0)):=by cases b<;>rfl
theorem zE {l:List Nat}{i v:Nat} (h:i<l.length):(l.set i v).sum + ga l i=l.sum + v:=by
 induction l generalizing i with
 |nil=>simp at h
 | cons a l ih=>
   cases i with
   |zero=>simp[ga];omega
   |succ i=>
     have:=ih (i:=i) (by simpa using h)
     rw[List.set_cons_succ,List.sum_cons,List.sum_cons]
     have e:ga (a::l) (i+1)=ga l i:=rfl
     rw[e];omega
theorem jV{n j:Nat}{d:D}(h:((List.range n).map nD)[j]?=some d):j<n∧d=nD j:=by
 have hj:j<n:=by
  have:=(List.getElem?_eq_some_iff.mp h).1
  simpa using this
 rw[List.getElem?_map,List.getElem?_range hj] at h
 exact⟨hj,(Option.some.inj h).symm⟩
theorem lV{l:List Nat}{i:Nat}(h:i<l.length):(rd (aY (.lst (l.map nD)) (nD i)):DM D)=pure (nD (ga l i)):=uE (i:=i) (by rw[List.getElem?_map,List.getElem?_eq_getElem h,mH h];rfl)
theorem fF{k:Nat}{tg:D->aa->DM aa}{fb:aa->DM Fl}{l:List D}{δ:aa}:zY k tg fb (.fix l) δ=forL tg fb l δ:=rfl
theorem lA{fg:D->aa->DM aa}{ft:aa->DM Bool}{fb:aa->List D->DM (aa×List D)}{ds:List D}{δ:aa}{l:List D}:cM fg ft fb (.fix ds) δ l=bx fg ft fb ds δ l:=rfl
theorem zy{a b:Nat}(ha:a<2^62)(hb:b<2^62):rG [nD a,nD b]=some (.fix ((List.range (b-a)).map fun k=>nD (a+k))):=by
 have e:∀x:Nat,x<2^62->jW (x:Int)=true:=fun x h=>by unfold jW;simp;omega
 have e2:((b:Int)-(a:Int)).toNat=b-a:=by omega
 simp[rG,nD,e a ha,e b hb,e2,jU]
end K
set_option exponentiation.threshold 2000
namespace K
open PySem L2 L3 N10
theorem dq{f g:aa->DM Fl}{δ:aa}{M:Mo}{Q:Fl->Mo->Prop}(h:∀K:Fl->DM Fl,(∀δ',K (.nx δ')=g δ')->(∀d,K (.rt d)=Pure.pure (.rt d))->Rn (f δ>>=K) M Q):Rn (uJ f g δ) M Q:=by
 have:=h (fun r=>match r with | .nx δ'=>g δ' | r=>Pure.pure r) (fun _=>rfl) (fun _=>rfl)
 exact this
noncomputable def uT:=aP 1 1 mZ
theorem vO{s:Nat}(h:s<2^40):∃t:Nat,t<2147483629∧uT [nD s]=pure (nD t):=by
 refine⟨(((s+7919)%2147483647)*((s+7919)%2147483647)+48271*((s+7919)%2147483647)+12345)%2147483629,Nat.mod_lt _ (by decide),?_⟩
 have a1:(rd (bY (nD s) (.int 7919)):DM D)=pure (nD (s+7919)):=ig s 7919
 have a2:(rd (lN (nD (s+7919)) (.int 2147483647)):DM D)=pure (nD ((s+7919)%2147483647)):=fB (b:=2147483647) (by decide)
 have lt:=Nat.mod_lt (s+7919) (show 2147483647 > 0 by decide)
 generalize (s+7919)%2147483647=x at a2 lt
 have a3:(rd (ph (nD x) (nD x)):DM D)=pure (nD (x*x)):=rE (by omega)
 have a4:(rd (ph (.int 48271) (nD x)):DM D)=pure (nD (48271*x)):=rE (a:=48271) (by omega)
 have a5:∀a b:Nat,(rd (bY (nD a) (nD b)):DM D)=pure (nD (a+b)):=fun a b=>ig a b
 have a6:(rd (bY (nD (x*x+48271*x)) (.int 12345)):DM D)=pure (nD (x*x+48271*x+12345)):=ig _ 12345
 have a7:(rd (lN (nD (x*x+48271*x+12345)) (.int 2147483629)):DM D)=pure (nD ((x*x+48271*x+12345)%2147483629)):=fB (b:=2147483629) (by decide)
 simp[uT,mZ,a1,a2,a3,a4,a5,a6,a7]
noncomputable def bV(p:Nat)(M:Mo):Prop:=∃a b c:Nat,c<2^40∧M[p]?=some (.lst [nD a,nD b,nD c])
theorem bV.lt{p:Nat}{M:Mo}(h:bV p M):p<M.length:=by obtain⟨a,b,c,_,e⟩:=h;exact (List.getElem?_eq_some_iff.mp e).1
theorem bV.sb{p q:Nat}{M M':Mo}(h:bV p M)(s:Sb q M M')(hq:p≠q):bV p M':=by obtain⟨a,b,c,hc,e⟩:=h;exact⟨a,b,c,hc,s.at hq e⟩
noncomputable def qx:=aP 1 2 kJ
theorem zj(c:Int)(M:Mo):Rn (qx [.int c]) M fun d M'=>d=.ref M.length∧bV M.length M':=by
 unfold qx kJ gh;dsimp only
 refine Rn.call rfl ?_
 refine aG fun K hK=>?_
 have p18:(rd (uA (.int 10) (.int 18)):DM D)=pure (.int 1000000000000000000):=by rw[yp (by decide)];rfl
 have st:cD 2 [D.int c]=[some (.int c),none]:=rfl
 rw[st]
 simp
 have en:D.int (if c < -c then -c else c)=nD (if c < -c then -c else c).toNat:=by
  unfold nD
  congr 1
  split<;>omega
 rw[en]
 generalize (if c < -c then -c else c).toNat=n
 rw[hK];clear hK K
 have ge:(rd (vC (nD n) (.int 1000000000000000000)):DM D)=pure (.bl (decide (1000000000000000000≤n))):=vV n 1000000000000000000
 have md:(rd (lN (nD n) (.int 1000003)):DM D)=pure (nD (n%1000003)):=fB (b:=1000003) (by decide)
 simp[p18,ge,vG,md]
 refine Rn.dX (by simp) ?_
 have lt:=Nat.mod_lt n (show 1000003 > 0 by decide)
 exact Rn.pure ⟨_,rfl,rfl,n,(if 1000000000000000000≤n then 1 else 0),n%1000003,by omega,by simp⟩
noncomputable def gP:=aP 2 3 (mY uT)
theorem cQ {p:Nat}{M:Mo}{m:Nat} (h:bV p M) (h0:0<m) (h1:m<2 ^ 60):Rn (gP [.ref p,nD m]) M fun d M'=>∃ t:Nat,t<m∧d=nD t∧bV p M'∧Sb p M M':=by
 obtain⟨a,b,c,hc,e⟩:=h
 have hp:=(List.getElem?_eq_some_iff.mp e).1
 unfold gP mY jc;dsimp only
 refine Rn.call rfl ?_
 have st:cD 3 [D.ref p,nD m]=[some (.ref p),some (nD m),none]:=rfl
 rw[st]
 have i0:aY (.ref p) (.int 0) M=some (nD a):=jz (i:=0) e rfl
 have i1:aY (.ref p) (.int 1) M=some (nD b):=jz (i:=1) e rfl
 have i2:aY (.ref p) (.int 2) M=some (nD c):=jz (i:=2) e rfl
 have eb:(rd (bW (nD b) (.int 1)):DM D)=pure (.bl (decide (b=1))):=bM b 1
 have ga:(rd (gB (nD a) (.int 0)):DM D)=pure (.bl (decide (0<a))):=jG a 0
 refine dq fun K hK hR=>?_
 have rest:Rn (K (.nx [some (.ref p),some (nD m),none])) M fun r M'=>∃d,r=.rt d∧∃t:Nat,t<m∧d=nD t∧bV p M'∧Sb p M M':=by
  rw[hK];clear hK hR K
  refine aG fun K hK=>?_
  simp
  refine Rn.bindRd _ i2 ?_
  obtain⟨t1,l1,e1⟩:=vO hc
  have a7:(rd (bY (nD t1) (.int 7)):DM D)=pure (nD (t1+7)):=ig t1 7
  obtain⟨t2,l2,e2⟩:=vO (s:=t1+7) (by omega)
  simp only[e1,au,a7,e2]
  refine Rn.run (pI (i:=2) e (by simp)) ?_
  rw[hK];clear hK K
  simp
  have at2:(M.set p (.lst [nD a,nD b,nD t2]))[p]?=some (.lst [nD a,nD b,nD t2]):=List.getElem?_set_self hp
  refine Rn.bindRd (nD t2) (jz (i:=2) at2 rfl) ?_
  have dv:(rd (oJ (nD t2) (.int 64)):DM D)=pure (nD (t2 / 64)):=rB (b:=64) (by decide) (by decide)
  simp[dv,fB (a:=t2 / 64) (b:=m) h0]
  exact Rn.pure ⟨_,rfl,_,Nat.mod_lt _ h0,rfl,⟨a,b,t2,by omega,at2⟩,Sb.set⟩
 simp
 refine Rn.bindRd _ i1 ?_
 simp only[eb,au,dB]
 by_cases hb:b=1
 ·simp[hb]
  refine Rn.bindRd _ i0 ?_
  simp only[ga,au,dB]
  by_cases ha:0<a
  ·simp[ha]
   refine Rn.bindRd _ i0 ?_
   simp[fB (a:=a) (b:=m) h0]
   refine Rn.bindRd _ i0 ?_
   simp[rB (a:=a) (b:=m) h0 (Nat.lt_trans h1 (by decide))]
   refine Rn.run (pI (i:=0) e (by simp)) ?_
   have at2:(M.set p (.lst [nD (a / m),nD b,nD c]))[p]?=some (.lst [nD (a / m),nD b,nD c]):=List.getElem?_set_self hp
   simp
   rw[hR]
   exact Rn.pure ⟨_,rfl,_,Nat.mod_lt _ h0,rfl,⟨_,b,c,hc,at2⟩,Sb.set⟩
  ·simp[ha]
   exact rest
 ·simp[hb]
  exact rest
structure Smn(n:Nat)(l:List Nat):Prop where
 ne:l≠[]
 lt:∀i∈l,i<n
 len:l.length≤100
theorem tM{n:Nat}(h:n≤1000):(rd (fun M=>(qi [nD n] M).map D.lst):DM D)=pure (.lst ((List.range n).map nD)):=bR fun M=>by
 have:qi [nD n] M=some ((List.range n).map nD):=by
  unfold nD
  show (if -(2^62)≤(n:Int)∧(n:Int)≤2^20 then some ((List.range (n:Int).toNat).map nD) else none)=_
  rw[if_pos ⟨by omega,by omega⟩,Int.toNat_natCast]
  rfl
 rw[this];rfl
theorem zu(a b:Nat):(rd (cI (fun _ _=>true) (fun i j=>.int (i+j)) (nD a) (nD b)):DM D)=pure (nD (a+b)):=bR fun M=>by
 simp[cI,nD]
theorem zq{a b:List Nat}(h:a.length+b.length≤1000000):(rd (bY (.lst (a.map nD)) (.lst (b.map nD))):DM D)=pure (.lst ((a++b).map nD)):=bR fun M=>by
 have:du (a.map nD++b.map nD)=true:=by unfold du;exact decide_eq_true (by show _≤2^24;rw[List.length_append,List.length_map,List.length_map];omega)
 simp[bY,aV,xg,this]
theorem zx(x:Nat)(b:Bool):(rd (fun M=>(nJ (.lst [nD x]) (nD (if b then 1 else 0)) M).map D.lst):DM D)=pure (.lst ((if b then [x] else []).map nD)):=bR fun M=>by
 cases b<;>rfl
noncomputable def qy:=aP 2 10 (m8 gP)
structure RwsS(M0:Mo)(p q n W:Nat)(i:Nat)(M:Mo):Prop where
 pen:bV p M
 sb:Sb p M0 M
 ex:∃R:List (List Nat),R.length=i∧M[q]?=some (.lst (R.map nT))∧∀r∈R,r.length=n∧r.sum=W
noncomputable def uc(M0:Mo)(p tp q n W kd:Nat)(i:Nat)(δ:aa)(M:Mo):Prop:=(∃z6 z7 z8 z9,δ=[some (.ref p),some (nD tp),some (nD n),some (nD W),some (nD kd),some (.ref q),z6,z7,z8,z9])∧RwsS M0 p q n W i M
structure BalS(M0:Mo)(p q t n:Nat)(L:List (List Nat))(i:Nat)(M:Mo):Prop where
 pen:bV p M
 sb:Sb p M0 M
 atq:M[q]?=some (.lst (L.map nT))
 ex:∃r:List Nat,M[t]?=some (.lst (r.map nD))∧r.length=n∧r.sum=i
noncomputable def Dk(M0:Mo)(p q t n:Nat)(L:List (List Nat))(pre:aa)(i:Nat)(δ:aa)(M:Mo):Prop:=(∃z9,δ=pre++[z9])∧BalS M0 p q t n L i M
theorem zB {p tp:Nat}{M:Mo} (hp:bV p M) (h1:1≤tp) (h2:tp≤6):Rn (qy [.ref p,nD tp]) M fun d M'=>∃ (R:List (List Nat)) (W:Nat),d=nM R∧WK R W∧R.length≤tp∧W≤12∧bV p M'∧Sb p M M':=by
 have hpl:=hp.lt
 unfold qy m8 je;dsimp only
 refine Rn.call rfl ?_
 have st:cD 10 [D.ref p,nD tp]=[some (.ref p),some (nD tp),none,none,none,none,none,none,none,none]:=rfl
 rw[st]
 refine aG fun K hK=>?_
 simp
 refine Rn.bind (cQ hp (by omega:0<tp) (by omega)) fun d1 M1 ⟨t1,g1,e1,hp1,s1⟩=>?_
 subst e1
 have ml:cN [.int 1,.int 2,.int 3,.int 4,.int 6,.int 12]=pure (.lst ([1,2,3,4,6,12].map nD)):=b8 (by simp)
 simp only[Bk,au,ml]
 have d6:=cQ (m:=6) hp1 (by decide) (by decide)
 refine Rn.bind d6 fun d2 M2 ⟨t2,g2,e2,hp2,s2⟩=>?_
 subst e2
 have ht2:t2<[1,2,3,4,6,12].length:=by simpa using g2
 rw[lV ht2]
 have hW:1≤ga [1,2,3,4,6,12] t2∧ga [1,2,3,4,6,12] t2≤12:=by
  have:=dF ht2
  generalize ga [1,2,3,4,6,12] t2=x at this
  simp at this
  omega
 revert hW
 generalize ga [1,2,3,4,6,12] t2=W
 intro hW
 have d7:=cQ (m:=7) hp2 (by decide) (by decide)
 simp only[au]
 refine Rn.bind d7 fun d3 M3 ⟨kd,g3,e3,hp3,s3⟩=>?_
 subst e3
 rw[hK];clear hK K d6 d7 ml ht2
 have sb3:Sb p M M3:=s1.trans (s2.trans s3)
 have hn1:1≤t1+1:=by omega
 have hn2:t1+1≤tp:=by omega
 revert hn1 hn2
 generalize t1+1=n
 intro n1 n2
 -- the list of rows
 refine aG fun K hK=>?_
 simp
 refine Rn.dX (by simp) ?_
 have pq:p≠M3.length:=by have:=hp3.lt;omega
 have ql:M.length≤M3.length:=sb3.le
 have st0:RwsS M p M3.length n W 0 (M3++[.lst []]):=⟨hp3.sb (q:=M3.length) Sb.push pq,Sb.new (p:=p) (.inr sb3.le) ql Sb.push sb3,[],rfl,by simp,by simp⟩
 rw[hK];clear hK K hp1 hp2 hp3 s1 s2 s3
 revert st0 pq ql
 generalize M3.length=q
 generalize M3++[DO.lst []]=M4
 intro pq ql st0
 refine aG fun K hK=>?_
 simp[bJ (n:=n) (by omega),fF]
 refine Rn.bind (cB (uc M p tp q n W kd) _ 0 _ _ ⟨⟨_,_,_,_,rfl⟩,st0⟩ (fun x d δ M5 hx hI=>?_)) (fun r M5 hI=>?_)
 rotate_left
 ·obtain⟨δ',rfl,⟨z6,z7,z8,z9,rfl⟩,hp5,sb5,R,lR,at5,hR⟩:=hI
  rw[hK];clear hK K
  rw[List.length_map,List.length_range,Nat.zero_add] at lR
  simp
  refine Rn.bindRd (nM R) (by show (aV (.ref q) M5).map _=_;simp only[aV,at5];rfl) ?_
  exact Rn.pure ⟨_,rfl,R,rfl,W,⟨by omega,by omega,fun r hr=>by rw[(hR r hr).1,lR],fun r hr=>(hR r hr).2,hW.1⟩,by omega,hW.2,hp5,sb5⟩
 clear hK K
 obtain⟨⟨z6,z7,z8,z9,rfl⟩,hp5,sb5,R,lR,at5,hR⟩:=hI
 obtain⟨hx',rfl⟩:=jV hx
 rw[Nat.zero_add] at lR ⊢
 rw[dJ,au]
 have hQ:∀δ' M',uc M p tp q n W kd (x+1) δ' M'->(fun (r:Fl) (M':Mo)=>∃δ',r=.nx δ'∧uc M p tp q n W kd (x+1) δ' M') (.nx δ') M':=fun δ' M' h=>⟨δ',rfl,h⟩
 revert hQ
 generalize (fun (r:Fl) (M':Mo)=>∃δ',r=.nx δ'∧uc M p tp q n W kd (x+1) δ' M')=Q
 intro hQ
 -- all places
 refine aG fun K hK=>?_
 simp[tM (n:=n) (by omega)]
 rw[hK];clear hK K
 have som0:Smn n (List.range n):=⟨by simp;omega,fun i hi=>List.mem_range.mp hi,by simp;omega⟩
 -- 1
 refine aG fun K hK=>?_
 suffices H:∀(l:List Nat) (M6:Mo),Smn n l->bV p M6->Sb p M5 M6->Rn (K (.nx [some (.ref p),some (nD tp),some (nD n),some (nD W),some (nD kd),some (.ref q),some (nD x),some (.lst (l.map nD)),z8,z9])) M6 Q by
  by_cases h:kd=1
  ·have e:(rd (bW (nD kd) (.int 1)):DM D)=pure (.bl true):=by rw[show D.int 1=nD 1 from rfl,bM,h];rfl
   simp[e]
   refine Rn.bind (cQ hp5 (by omega:0<n) (by omega)) fun d1 M7 ⟨u1,g1,e1,hp7,s7⟩=>?_
   refine Rn.bind (cQ hp7 (by omega:0<n) (by omega)) fun d2 M8 ⟨u2,g2,e2,hp8,s8⟩=>?_
   subst e1 e2
   have ml:cN [nD u1,nD u2]=pure (.lst ([u1,u2].map nD)):=b8 (by simp)
   simp only[ml,au]
   exact H [u1,u2] M8 ⟨by simp,fun i hi=>by simp at hi;omega,by simp⟩ hp8 (s7.trans s8)
  ·have e:(rd (bW (nD kd) (.int 1)):DM D)=pure (.bl false):=by rw[show D.int 1=nD 1 from rfl,bM,decide_eq_false h]
   simp[e]
   exact H _ _ som0 hp5 Sb.refl
 intro l1 M6_1 som1 hp6_1 sb6_1
 rw[hK];clear hK K
 -- 2
 refine aG fun K hK=>?_
 suffices H:∀(l:List Nat) (M6:Mo),Smn n l->bV p M6->Sb p M5 M6->Rn (K (.nx [some (.ref p),some (nD tp),some (nD n),some (nD W),some (nD kd),some (.ref q),some (nD x),some (.lst (l.map nD)),z8,z9])) M6 Q by
  by_cases h:kd=2
  ·have e:(rd (bW (nD kd) (.int 2)):DM D)=pure (.bl true):=by rw[show D.int 2=nD 2 from rfl,bM,h];rfl
   have ml:cN [nD ((x+1)%n)]=pure (.lst ([(x+1)%n].map nD)):=b8 (by simp)
   have hm:=Nat.mod_lt (x+1) (show n > 0 by omega)
   simp[e,fj,fB (a:=x+1) (b:=n) (by omega),ml]
   exact H [(x+1)%n] _ ⟨by simp,fun i hi=>by simp at hi;omega,by simp⟩ hp6_1 sb6_1
  ·have e:(rd (bW (nD kd) (.int 2)):DM D)=pure (.bl false):=by rw[show D.int 2=nD 2 from rfl,bM,decide_eq_false h]
   simp[e]
   exact H _ _ som1 hp6_1 sb6_1
 intro l2 M6_2 som2 hp6_2 sb6_2
 rw[hK];clear hK K
 -- 3
 refine aG fun K hK=>?_
 suffices H:∀ (l:List Nat) (M6:Mo),Smn n l->bV p M6->Sb p M5 M6->Rn (K (.nx [some (.ref p),some (nD tp),some (nD n),some (nD W),some (nD kd),some (.ref q),some (nD x),some (.lst (l.map nD)),z8,z9])) M6 Q by
  by_cases h:kd=3
  ·have e:(rd (bW (nD kd) (.int 3)):DM D)=pure (.bl true):=by rw [show D.int 3=nD 3 from rfl,bM,h];rfl
   have md:∀y:Nat,(rd (lN (nD y) (.int 2)):DM D)=pure (nD (y%2)):=fun y=>fB (b:=2) (by decide)
   have e1:(rd (bW (nD n) (.int 1)):DM D)=pure (.bl (decide (n=1))):=bM n 1
   have ml:cN [nD x]=pure (.lst [nD x]):=b8 (by simp)
   have fl:((List.range n).filter fun y=>!decide (y%2=x%2)).length≤n:=by
    have:=List.length_filter_le (fun y=>!decide (y%2=x%2)) (List.range n)
    rwa [List.length_range] at this
   have il:(if decide (n=1)=true then [x] else []).length≤1:=by split<;>simp
   have ad:=zq (a:=(List.range n).filter fun y=>!decide (y%2=x%2)) (b:=if decide (n=1)=true then [x] else []) (by omega)
   have mu:=zx x (decide (n=1))
   have ge:=H (((List.range n).filter fun y=>!decide (y%2=x%2))++if decide (n=1)=true then [x] else []) M6_2 ⟨fun z=>?_,fun i hi=>?_,?_⟩ hp6_2 sb6_2
   ·simp only[gZ,dm,uD,bw,e,dB,if_true,bJ (n:=n) (by omega),tL,aQ,bz,List.length_cons,List.length_nil,List.map_cons,List.map_nil,List.replicate_succ,List.replicate_zero,List.cons_append,List.nil_append,Option.getD_some]
    rw[bc nD (fun y=>!decide (y%2=x%2)) nD (by simp;omega) (fun y hy=>by simp[md,lX]) (fun y hy _=>by simp)]
    simp only[gZ,au,wj,ml,e1,vG,mu,ad]
    exact ge
   ·rw [List.append_eq_nil_iff] at z
    by_cases h1:n=1
    ·rw[decide_eq_true h1,if_pos rfl] at z
     cases z.2
    ·have m:(if x % 2=0 then 1 else 0)∈(List.range n).filter fun y=>!decide (y % 2=x % 2):=by
      rw[List.mem_filter,List.mem_range]
      constructor
      ·split<;>omega
      ·by_cases h2:x%2=0
       ·simp[h2]
       ·have:x%2=1:=by omega
        simp[this]
     rw[z.1] at m
     cases m
   ·rcases List.mem_append.mp hi with h2 | h2
    ·exact List.mem_range.mp (List.mem_filter.mp h2).1
    ·split at h2
     ·simp at h2;omega
     ·cases h2
   ·rw[List.length_append];omega
  ·have e:(rd (bW (nD kd) (.int 3)):DM D)=pure (.bl false):=by rw[show D.int 3=nD 3 from rfl,bM,decide_eq_false h]
   simp[e]
   exact H _ _ som2 hp6_2 sb6_2
 intro l3 M6_3 som3 hp6_3 sb6_3
 rw[hK];clear hK K
 -- 4
 refine aG fun K hK=>?_
 suffices H:∀ (l:List Nat) (M6:Mo),Smn n l->bV p M6->Sb p M5 M6->Rn (K (.nx [some (.ref p),some (nD tp),some (nD n),some (nD W),some (nD kd),some (.ref q),some (nD x),some (.lst (l.map nD)),z8,z9])) M6 Q by
  by_cases h:kd=4
  ·have e:(rd (bW (nD kd) (.int 4)):DM D)=pure (.bl true):=by rw[show D.int 4=nD 4 from rfl,bM,h];rfl
   have dv:∀y:Nat,(rd (oJ (nD y) (.int 2)):DM D)=pure (nD (y / 2)):=fun y=>rB (b:=2) (by decide) (by decide)
   have fl:((List.range n).filter fun y=>decide (y / 2=x / 2)).length≤n:=by
    have:=List.length_filter_le (fun y=>decide (y / 2=x / 2)) (List.range n)
    rwa [List.length_range] at this
   simp only[gZ,dm,uD,bw,e,dB,if_true,bJ (n:=n) (by omega),tL,aQ,bz,List.length_cons,List.length_nil,List.map_cons,List.map_nil,List.replicate_succ,List.replicate_zero,List.cons_append,List.nil_append,Option.getD_some]
   rw[bc nD (fun y=>decide (y / 2=x / 2)) nD (by simp;omega) (fun y hy=>by simp[dv,bM]) (fun y hy _=>by simp)]
   simp only[gZ,au,wj]
   refine H _ _ ⟨fun z=>?_,fun i hi=>List.mem_range.mp (List.mem_filter.mp hi).1,by omega⟩ hp6_3 sb6_3
   have m:x∈(List.range n).filter fun y=>decide (y / 2=x / 2):=by rw[List.mem_filter,List.mem_range];exact⟨hx',by simp⟩
   rw[z] at m
   cases m
  ·have e:(rd (bW (nD kd) (.int 4)):DM D)=pure (.bl false):=by rw[show D.int 4=nD 4 from rfl,bM,decide_eq_false h]
   simp[e]
   exact H _ _ som3 hp6_3 sb6_3
 intro l4 M6_4 som4 hp6_4 sb6_4
 rw[hK];clear hK K
 -- 5
 refine aG fun K hK=>?_
 suffices H:∀(l:List Nat) (M6:Mo),Smn n l->bV p M6->Sb p M5 M6->Rn (K (.nx [some (.ref p),some (nD tp),some (nD n),some (nD W),some (nD kd),some (.ref q),some (nD x),some (.lst (l.map nD)),z8,z9])) M6 Q by
  by_cases h:kd=5
  ·have e:(rd (bW (nD kd) (.int 5)):DM D)=pure (.bl true):=by rw[show D.int 5=nD 5 from rfl,bM,h];rfl
   simp[e,fj,tM (n:=x+1) (by omega)]
   exact H (List.range (x+1)) _ ⟨by simp,fun i hi=>by have:=List.mem_range.mp hi;omega,by simp;omega⟩ hp6_4 sb6_4
  ·have e:(rd (bW (nD kd) (.int 5)):DM D)=pure (.bl false):=by rw[show D.int 5=nD 5 from rfl,bM,decide_eq_false h]
   simp[e]
   exact H _ _ som4 hp6_4 sb6_4
 intro l5 M6_5 som5 hp6_5 sb6_5
 rw[hK];clear hK K
 -- the row
 have q6:q<M6_5.length:=(List.getElem?_eq_some_iff.mp (sb6_5.at (fun z=>pq z.symm) at5)).1
 have at6:=sb6_5.at (fun z=>pq z.symm) at5
 have sb6:Sb p M M6_5:=sb5.trans sb6_5
 have m0:cN [.int 0]=pure (.lst [.int 0]):=b8 (by simp)
 refine aG fun K hK=>?_
 simp[m0]
 refine xj (by omega) ?_
 have pt:p≠M6_5.length:=by have:=hp6_5.lt;omega
 have qt:q≠M6_5.length:=by omega
 have tl:M.length≤M6_5.length:=sb6.le
 have bs0:BalS M p q M6_5.length n R 0 (M6_5++[.lst ((List.replicate n 0).map nD)]):=⟨hp6_5.sb (q:=M6_5.length) Sb.push pt,Sb.new (p:=p) (.inr sb6.le) tl Sb.push sb6,by rw[List.getElem?_append_left q6];exact at6,List.replicate n 0,by simp,by simp,by simp⟩
 rw[hK];clear hK K
 revert bs0 pt qt tl
 generalize M6_5.length=t
 generalize M6_5++[DO.lst ((List.replicate n 0).map nD)]=M7
 intro pt qt tl bs0
 -- ball by ball
 refine aG fun K hK=>?_
 simp[bJ (n:=W) (by omega),fF]
 refine Rn.bind (cB (Dk M p q t n R [some (.ref p),some (nD tp),some (nD n),some (nD W),some (nD kd),some (.ref q),some (nD x),some (.lst (l5.map nD)),some (.ref t)]) _ 0 _ _ ⟨⟨z9,rfl⟩,bs0⟩ (fun j d δ M8 hj hI=>?_)) (fun r M8 hI=>?_)
 ·obtain⟨⟨z9,rfl⟩,hp8,sb8,atq8,r,at8,lr,sr⟩:=hI
  obtain⟨hj',rfl⟩:=jV hj
  rw[Nat.zero_add] at sr ⊢
  rw[dJ,au]
  have ln:(rd (fZ [.lst (l5.map nD)]):DM D)=pure (nD l5.length):=by simp[nD]
  have l0:0<l5.length:=List.length_pos_iff.mpr som5.ne
  simp[ln]
  refine Rn.bind (cQ hp8 l0 (by have:=som5.len;omega)) fun d9 M9 ⟨u,g9,e9,hp9,s9⟩=>?_
  subst e9
  simp only[lV g9,au]
  have ul:ga l5 u<r.length:=by rw[lr];exact som5.lt _ (dF g9)
  have at9:=s9.at (fun z=>pt z.symm) at8
  have atq9:=s9.at (fun z=>pq z.symm) atq8
  have t9:=(List.getElem?_eq_some_iff.mp at9).1
  generalize ga l5 u=v at ul
  refine Rn.bindRd (nD (ga r v)) (by
   show (if 0≤(v:Int) then (aV (.ref t) M9).bind fun l=>atI l (v:Int) else none)=_
   rw[if_pos (by omega)]
   simp only[aV,at9,Option.bind_some]
   exact lB (by rw[List.getElem?_map,List.getElem?_eq_getElem ul,mH ul];rfl)) ?_
  have ia:(rd (cI (fun _ _=>true) (fun i j=>.int (i+j)) (nD (ga r v)) (.int 1)):DM D)=pure (nD (ga r v+1)):=zu (ga r v) 1
  simp[ia]
  refine Rn.run (pI at9 (by rw[List.length_map];exact ul)) ?_
  refine Rn.pure ⟨_,rfl,⟨_,rfl⟩,hp9.sb (q:=t) Sb.set pt,Sb.new (p:=p) (.inr (sb8.trans s9).le) tl Sb.set (sb8.trans s9),by rw[List.getElem?_set_ne (fun z=>qt z.symm)];exact atq9,r.set v (ga r v+1),?_,by rw[List.length_set];exact lr,?_⟩
  ·rw[List.getElem?_set_self t9,List.map_set]
  ·have:=zE (l:=r) (i:=v) (v:=ga r v+1) ul
   omega
 obtain⟨δ',rfl,⟨z9,rfl⟩,hp8,sb8,atq8,r,at8,lr,sr⟩:=hI
 rw[List.length_map,List.length_range,Nat.zero_add] at sr
 rw[hK];clear hK K
 simp
 refine Rn.bindRd _ (by simp only[aV,atq8];rfl) ?_
 refine Rn.bindRd (nT r) (by show (aV (.ref t) M8).map _=_;simp only[aV,at8];rfl) ?_
 have q8:=(List.getElem?_eq_some_iff.mp atq8).1
 refine Rn.run (mC atq8 (by rw[List.length_map];omega)) ?_
 refine Rn.pure (hQ _ _ ⟨⟨_,_,_,_,rfl⟩,hp8.sb (q:=q) Sb.set pq,Sb.new (p:=p) (.inr sb8.le) ql Sb.set sb8,R++[r],by simp[lR],by rw[List.getElem?_set_self q8];simp,fun r' hr'=>?_⟩)
 rcases List.mem_append.mp hr' with z | z
 ·exact hR r' z
 ·rw[List.mem_singleton.mp z];exact⟨lr,sr⟩
mutual
noncomputable def wt:D->Nat
 |.int _=>1921
 |.str x=>(reprText x).length
 |.tup l=>aZ l+3
 |.lst l=>aZ l+3
 |.dic _ _=>8000
 |_=>5
noncomputable def aZ:List D->Nat
 |[]=>0
 |d::l=>wt d+2+aZ l
end
inductive Gd(B:Nat):Nat->D->Prop
 |non {n:Nat}:Gd B n .non
 |bl {n:Nat} (b:Bool):Gd B n (.bl b)
 |int {n:Nat}{i:Int}:i.natAbs≤B->Gd B n (.int i)
 |str {n:Nat}{x:Str}:Gd B n (.str x)
 |d0 {n:Nat}:Gd B n (.dic [] [])
 |d1 {n:Nat}:Gd B n (.dic [.inl 0] [.int 1])
 |tup {n:Nat}{l:List D}:(∀x∈l,Gd B n x)->Gd B (n+1) (.tup l)
 |lst {n:Nat}{l:List D}:(∀x∈l,Gd B n x)->Gd B (n+1) (.lst l)
theorem Gd.mono {B B':Nat} (hB:B≤B'):∀ {n n':Nat}{d:D},Gd B n d->n≤n'->Gd B' n' d
 |_,_,_,.non,_=>.non
 |_,_,_,.bl b,_=>.bl b
 |_,_,_,.int h,_=>.int (Nat.le_trans h hB)
 |_,_,_,.str,_=>.str
 |_,_,_,.d0,_=>.d0
 |_,_,_,.d1,_=>.d1
 |_,n',_,.tup h,hn=>by
   obtain⟨m,rfl⟩:∃m,n'=m+1:=⟨n' - 1,by omega⟩
   exact .tup fun x hx=>(h x hx).mono hB (by omega)
 |_,n',_,.lst h,hn=>by
   obtain⟨m,rfl⟩:∃m,n'=m+1:=⟨n' - 1,by omega⟩
   exact .lst fun x hx=>(h x hx).mono hB (by omega)
theorem rm {k:Nat}:∀ {l:List D},(∀ x∈l,∃ p,bN x=some p∧p.showable=true∧p.depth≤k∧cH p=wt x)->∃ ps,dH l=some ps∧PyData.showableAll ps=true∧PyData.depthAll ps≤k∧iI ps=aZ l
 |[],_=>⟨[],by simp only[dH],by simp only[PyData.showableAll],by simp only[PyData.depthAll];omega,by simp only[iI,aZ]⟩
 |d::l,h=>by
   obtain⟨p,a,b,c,e⟩:=h d (.head _)
   obtain⟨ps,a',b',c',e'⟩:=rm fun x hx=>h x (.tail _ hx)
   exact⟨p::ps,by simp only[dH,a,a'],by simp only[PyData.showableAll,b,b',Bool.and_self],by simp only[PyData.depthAll];omega,by simp only[iI,aZ,e,e']⟩
theorem Gd.py {B:Nat} (hB:B<2 ^ 1000):∀ {n:Nat}{d:D},Gd B n d->∃ p,bN d=some p∧p.showable=true∧p.depth≤n + 3∧cH p=wt d
 |_,_,.non=>⟨_,rfl,rfl,by simp only[PyData.depth];omega,by simp only[cH,wt]⟩
 |_,_,.bl b=>⟨_,rfl,rfl,by simp only[PyData.depth];omega,by simp only[cH,wt]⟩
 |_,_,.int h=>⟨_,rfl,by simpa[PyData.showableAll] using wy (l:=[_]) (fun i hi=>by rw[List.mem_singleton.mp hi];exact Nat.lt_of_le_of_lt h hB),by simp only[PyData.depth];omega,by simp only[cH,wt]⟩
 |_,_,.str=>⟨_,rfl,by simp only[PyData.showable],by simp only[PyData.depth];omega,by simp only[cH,wt]⟩
 |_,_,.d0=>⟨_,rfl,by simp[PyData.showable,PyData.showableKv],by simp[PyData.depth,PyData.depthKv],by simp only[cH,wt]⟩
 |_,_,.d1=>⟨_,rfl,by simp only[PyData.showable,PyData.showableKv];decide +kernel,by simp[PyData.depth,PyData.depthKv],by simp only[cH,wt]⟩
 |_,_,.tup h=>by
   obtain⟨ps,a,b,c,e⟩:=rm fun x hx=>(h x hx).py hB
   exact⟨.tuple ps,by simp only[bN,a,Option.map_some],by simpa only[PyData.showable] using b,by simp only[PyData.depth];omega,by simp only[cH,wt,e]⟩
 |_,_,.lst h=>by
   obtain⟨ps,a,b,c,e⟩:=rm fun x hx=>(h x hx).py hB
   exact⟨.list ps,by simp only[bN,a,Option.map_some],by simpa only[PyData.showable] using b,by simp only[PyData.depth];omega,by simp only[cH,wt,e]⟩
mutual
theorem wz:∀ {d:D}{p:PyData},toPy d=some p->bN d=some p
 |.non,_,h=>h
 |.bl _,_,h=>h
 |.int _,_,h=>h
 |.str _,_,h=>h
 |.tup l,_,h=>by
   simp only[toPy,Option.map_eq_some_iff] at h
   obtain⟨ps,a,rfl⟩:=h
   simp only[bN,pK a,Option.map_some]
 |.lst l,_,h=>by
   simp only[toPy,Option.map_eq_some_iff] at h
   obtain⟨ps,a,rfl⟩:=h
   simp only[bN,pK a,Option.map_some]
 |.dic _ _,_,h=>by simp[toPy] at h
 |.obj _ _ _,_,h=>by simp[toPy] at h
 |.scr _,_,h=>by simp[toPy] at h
 |.ref _,_,h=>by simp[toPy] at h
 |.cls _,_,h=>by simp[toPy] at h
 |.ty _,_,h=>by simp[toPy] at h
 |.exn _,_,h=>by simp[toPy] at h
theorem pK:∀ {l:List D}{ps:List PyData},dU l=some ps->dH l=some ps
 |[],_,h=>h
 | d::l,_,h=>by
   simp only[dU] at h
   split at h
   ·rename_i a b
    cases h
    simp only[dH,wz a,pK b]
   ·cases h
end
theorem Gd.sh {B n:Nat}{d:D} (h:Gd B n d) (hB:B<2 ^ 1000) (hn:n≤50) (hw:wt d≤10000000):Eg d:=by
 obtain⟨p,a,b,c,e⟩:=h.py hB
 refine⟨p.shown,bR fun M=>?_⟩
 have h0:uB d=some p:=by
  unfold uB
  split
  ·rename_i q hq
   rw[←a,wz hq]
  ·exact a
 simp only[qj,h0,Option.bind_some,b,Bool.true_and]
 rw[if_pos]
 rw[Bool.and_eq_true,decide_eq_true_eq,decide_eq_true_eq]
 exact⟨by omega,by show _≤2^24;omega⟩
theorem fH:∀a b:List D,aZ (a++b)=aZ a+aZ b
 |[],b=>by simp[aZ]
 |x::a,b=>by simp only[List.cons_append,aZ,fH a b];omega
theorem tY:∀a:List D,aZ a.reverse=aZ a
 |[]=>rfl
 |x::a=>by simp only[List.reverse_cons,fH,tY a,aZ];omega
theorem pL(a:List D)(i:Nat):aZ (a.take i)+aZ (a.drop i)=aZ a:=by rw[←fH,List.take_append_drop]
theorem pM:∀a:List D,2*a.length≤aZ a
 |[]=>by simp[aZ]
 |x::a=>by have:=pM a;simp only[List.length_cons,aZ];omega
theorem mQ:∀{a:List D}{x:D},x∈a->wt x+2≤aZ a
 |x::a,_,.head _=>by simp only[aZ];omega
 |x::a,_,.tail _ h=>by have:=mQ h;simp only[aZ];omega
noncomputable def pO:=aP 1 2 (oh gP)
noncomputable def jO:List D:=[.non,.bl true,.bl false,.int (-1),.int 99,.int 100000000000,.str "",.str "0",.tup [],.lst [],.dic [] [],.tup [.tup []],.tup [.int 0],.lst [.int 0],.tup [.int 0,.int 0],.str "ab",.dic [.inl 0] [.int 1]]
theorem Ba:∀d∈jO,Gd (10^11) 2 d∧wt d≤9000:=by
 have t0:Gd (10^11) 1 (.tup []):=.tup fun _ h=>by cases h
 have i0:Gd (10^11) 1 (.int 0):=.int (by decide)
 have s1:∀x:Str,(reprText x).length≤100->Gd (10^11) 2 (.str x)∧wt (.str x)≤9000:=fun x h=>⟨.str,by simp only[wt];omega⟩
 intro d hd
 simp only[jO,List.mem_cons,List.not_mem_nil,or_false] at hd
 rcases hd with rfl | rfl | rfl | rfl | rfl | rfl | rfl | rfl | rfl | rfl | rfl | rfl | rfl | rfl | rfl | rfl | rfl
 ·exact⟨.non,by simp[wt]⟩
 ·exact⟨.bl _,by simp[wt]⟩
 ·exact⟨.bl _,by simp[wt]⟩
 ·exact⟨.int (by decide),by simp[wt]⟩
 ·exact⟨.int (by decide),by simp[wt]⟩
 ·exact⟨.int (by decide),by simp[wt]⟩
 ·exact s1 _ (by decide +kernel)
 ·exact s1 _ (by decide +kernel)
 ·exact⟨.tup fun _ h=>(by cases h),by simp[wt,aZ]⟩
 ·exact⟨.lst fun _ h=>(by cases h),by simp[wt,aZ]⟩
 ·exact⟨.d0,by simp[wt]⟩
 ·exact⟨.tup fun x h=>by rw[List.mem_singleton.mp h];exact t0,by simp[wt,aZ]⟩
 ·exact⟨.tup fun x h=>by rw[List.mem_singleton.mp h];exact i0,by simp[wt,aZ]⟩
 ·exact⟨.lst fun x h=>by rw[List.mem_singleton.mp h];exact i0,by simp[wt,aZ]⟩
 ·exact⟨.tup fun x h=>by simp at h;rw[h];exact i0,by simp[wt,aZ]⟩
 ·exact s1 _ (by decide +kernel)
 ·exact⟨.d1,by simp[wt]⟩
theorem oR{p:Nat}{M:Mo}(h:bV p M):Rn (pO [.ref p]) M fun d M'=>(Gd (10^11) 2 d∧wt d≤9000)∧bV p M'∧Sb p M M':=by
 unfold pO oh jQ;dsimp only
 refine Rn.call rfl ?_
 have p11:(rd (uA (.int 10) (.int 11)):DM D)=pure (.int 100000000000):=by rw[yp (by decide)];rfl
 have m1:cV []=pure (.tup []):=cu (by simp)
 have m2:cN []=pure (.lst []):=b8 (by simp)
 have m3:cV [.tup []]=pure (.tup [.tup []]):=cu (by simp)
 have m4:cV [.int 0]=pure (.tup [.int 0]):=cu (by simp)
 have m5:cN [.int 0]=pure (.lst [.int 0]):=b8 (by simp)
 have m6:cV [.int 0,.int 0]=pure (.tup [.int 0,.int 0]):=cu (by simp)
 have m7:cN jO=pure (.lst jO):=b8 (by simp[jO])
 refine aG fun K hK=>?_
 simp[p11,m1,m2,m3,m4,m5,m6]
 change Rn (cN jO>>=_) M _
 rw[m7,au,hK];clear hK K
 simp
 refine Rn.bind (cQ (m:=17) h (by decide) (by decide)) fun d1 M1 ⟨t,g,e,hp1,s1⟩=>?_
 subst e
 have ht:t<jO.length:=g
 rw[show rd (aY (.lst jO) (nD t))=(pure jO[t]:DM D) from uE (List.getElem?_eq_getElem ht)]
 exact Rn.pure ⟨_,rfl,Ba _ (List.getElem_mem ht),hp1,s1⟩
noncomputable def pN:Nat->List D->DM D
 |0=>aP 2 4 fun _=>stuck
 |n+1=>aP 2 4 (mW gP pO (pN n))
noncomputable def xR(B n:Nat)(d:D)(p:Nat)(M:Mo)(r:D)(M':Mo):Prop:=(Gd (B+10^12) (n+2) r∧wt r≤2*wt d+10000)∧bV p M'∧Sb p M M'
theorem xR.mk{B n p:Nat}{d r:D}{M M':Mo}(a:Gd (B+10^12) (n+2) r)(b:wt r≤2*wt d+10000)(c:bV p M')(e:Sb p M M'):xR B n d p M r M':=⟨⟨a,b⟩,c,e⟩
theorem tK{L:List D}{t:Nat}(h:t<L.length):∃x,x∈L∧(rd (aY (.lst L) (nD t)):DM D)=pure x:=⟨L[t],List.getElem_mem h,uE (List.getElem?_eq_getElem h)⟩
noncomputable def qN:D->Bool
 |.tup _=>true
 |_=>false
noncomputable def isNm:D->Bool
 |.int _=>true
 |.bl _=>true
 |_=>false
theorem Gd.isT{B n:Nat}{d:D}(h:Gd B n d):(rd (fY [d,.ty "tuple"]):DM D)=pure (.bl (qN d)):=by
 cases h<;>first | exact b7 (t := "NoneType") (fun _=>rfl) (by decide) | exact b7 (t := "bool") (fun _=>rfl) (by decide) | exact b7 (t := "int") (fun _=>rfl) (by decide) | exact b7 (t := "str") (fun _=>rfl) (by decide) | exact b7 (t := "dict") (fun _=>rfl) (by decide) | exact b7 (t := "tuple") (fun _=>rfl) (by decide) | exact b7 (t := "list") (fun _=>rfl) (by decide)
theorem Gd.pU{B n:Nat}{d:D}(h:Gd B n d):(rd (fY [d,.ty "int"]):DM D)=pure (.bl (isNm d)):=by
 cases h<;>first | exact b7 (t := "NoneType") (fun _=>rfl) (by decide) | exact b7 (t := "bool") (fun _=>rfl) (by decide) | exact b7 (t := "int") (fun _=>rfl) (by decide) | exact b7 (t := "str") (fun _=>rfl) (by decide) | exact b7 (t := "dict") (fun _=>rfl) (by decide) | exact b7 (t := "tuple") (fun _=>rfl) (by decide) | exact b7 (t := "list") (fun _=>rfl) (by decide)
theorem Gd.num{B n:Nat}{d:D}(h:Gd B n d)(hn:isNm d=true):∃i:Int,i.natAbs≤B+1∧(∀j,(rd (wG d (.int j)):DM D)=pure (.int (i+j)))∧(∀j,(rd (subB d (.int j)):DM D)=pure (.int (i-j)))∧(rd (subB (.int 0) d):DM D)=pure (.int (0-i)):=by
 cases h with
 |bl b=>exact⟨nb b,by cases b<;>simp[nb],fun _=>rfl,fun _=>rfl,rfl⟩
 | @int _ i hi=>exact⟨i,by omega,fun _=>rfl,fun _=>rfl,rfl⟩
 |_=>cases hn
theorem Ef(l:List D)(i:Nat):(rd (my none (some (i:Int)) (.tup l)):DM D)=pure (.tup (l.take i)):=bR fun M=>by
 simp only[my,cutD,HT.sIx_none,HT.sIx_nat,List.drop_zero,Nat.sub_zero]
 exact congrArg (fun z=>some (D.tup z)) (List.take_eq_take_iff.mpr (by omega))
theorem rH(l:List D)(i:Nat):(rd (my (some (i:Int)) none (.tup l)):DM D)=pure (.tup (l.drop i)):=bR fun M=>by
 simp only[my,cutD,HT.sIx_none,HT.sIx_nat]
 by_cases h:i≤l.length
 ·rw[Nat.min_eq_left h,List.take_of_length_le (by simp)]
 ·rw[Nat.min_eq_right (by omega),List.drop_of_length_le (Nat.le_refl _),List.drop_of_length_le (by omega),List.take_nil]
theorem CK{l:List D}{i:Nat}(h:i<l.length):(rd (my (some (i:Int)) (some ((i+1:Nat):Int)) (.tup l)):DM D)=pure (.tup [l[i]]):=bR fun M=>by
 simp only[my,cutD,HT.sIx_nat]
 rw[Nat.min_eq_left (by omega),Nat.min_eq_left (by omega),List.drop_eq_getElem_cons h,Nat.add_sub_cancel_left];rfl
theorem fu{x y:List D}(h:x.length+y.length≤10000000):(rd (bY (.tup x) (.tup y)):DM D)=pure (.tup (x++y)):=bR fun M=>by
 have:du (x++y)=true:=by unfold du;exact decide_eq_true (by show _≤2^24;rw[List.length_append];omega)
 simp[bY,Bu,this]
theorem Du(i:Int):uV (.int i)=pure (some i):=id rfl
theorem o8(i:Nat):uV (nD i)=pure (some (i:Int)):=id rfl
theorem Rn.asc{α β γ:Type}{m:DM α}{f:α->DM β}{g:β->DM γ}{M:Mo}{Q:γ->Mo->Prop}(h:Rn (m>>=fun a=>f a>>=g) M Q):Rn ((m>>=f)>>=g) M Q:=by rw[bw];exact h
theorem uX:∀ (m:Nat) {n B p:Nat}{d:D}{M:Mo},n<m->Gd B n d->bV p M->wt d≤1000000->Rn (pN m [.ref p,d]) M (xR B n d p M):=by
 intro m
 induction m with
 |zero=>intro n B p d M h;omega
 | succ m ih=>
   intro n B p d M hm hd hp hw
   unfold pN mW iZ;dsimp only
   refine Rn.call rfl ?_
   have st:cD 4 [D.ref p,d]=[some (.ref p),some d,none,none]:=rfl
   rw[st]
   refine dq fun K hK hR=>?_
   simp
   refine Rn.bind (cQ (m:=8) hp (by decide) (by decide)) fun d1 M1 ⟨way,g,e,hp1,s1⟩=>?_
   subst e
   rw[hK];clear hK hR K
   refine dq fun K hK hR=>?_
   simp[hd.isT]
   by_cases hT:qN d=true
   ·simp [hT]
    rw[hK];clear hK hR K
    cases hd with
    | @tup n l hl=>
      have hwl:aZ l+3≤1000000:=by simpa only[wt] using hw
      have hlen:=pM l
      have m0:cV []=pure (.tup []):=cu (by simp)
      have eqz:(rd (zU (.tup l) (.tup [])):DM D)=pure (.bl l.isEmpty):=bR fun M=>rfl
      have ew:∀j:Nat,(rd (bW (nD way) (.int (j:Int))):DM D)=pure (.bl (decide (way=j))):=fun j=>bM way j
      have ew0:(rd (bW (nD way) (.int 0)):DM D)=pure (.bl (decide (way=0))):=bM way 0
      have ew1:(rd (bW (nD way) (.int 1)):DM D)=pure (.bl (decide (way=1))):=bM way 1
      have ew2:(rd (bW (nD way) (.int 2)):DM D)=pure (.bl (decide (way=2))):=bM way 2
      have mg:∀{x:D},Gd B n x->Gd (B+10^12) (n+2) x:=fun h=>h.mono (by omega) (by omega)
      have md:∀{x:D},Gd (10^11) 2 x->Gd (B+10^12) (n+2) x:=fun h=>h.mono (by omega) (by omega)
      refine dq fun K hK hR=>?_
      refine Rn.asc (Rn.bind (Q1:=fun k M'=>k=(l.isEmpty || decide (way=0))∧M'=M1) ?_ fun k M' ⟨e1,e2⟩=>?_)
      ·by_cases h:l.isEmpty=true
       ·simp[m0,eqz,h];exact Rn.pure ⟨rfl,rfl⟩
       ·rw[Bool.not_eq_true] at h
        simp[m0,eqz,h,ew0];exact Rn.pure ⟨rfl,rfl⟩
      subst e1 e2
      by_cases hz:(l.isEmpty || decide (way=0))=true
      ·rw [hz,if_pos rfl]
       have ll:(rd (fun M=>(uv [.tup l] M).map D.lst):DM D)=pure (.lst l):=bR fun M=>rfl
       have rv:xO (.tup l)=some (.tup l.reverse):=rfl
       simp[ll,rv,Du]
       refine Rn.bind (oR hp1) fun o1 M2 ⟨⟨go,wo⟩,hp2,s2⟩=>?_
       have mk1:cV [o1]=pure (.tup [o1]):=cu (by simp)
       have ad1:(rd (bY (.tup l) (.tup [o1])):DM D)=pure (.tup (l++[o1])):=fu (by simp;omega)
       simp only[mk1,au,ad1]
       refine Rn.bind (oR hp2) fun o2 M3 ⟨⟨sH,wo2⟩,hp3,s3⟩=>?_
       have sl1:(rd (my (some 1) none (.tup l)):DM D)=pure (.tup (l.drop 1)):=rH l 1
       have ml:cN [.lst l,.tup (l++[o1]),o2,.tup l.reverse,.tup (l.drop 1)]=pure (.lst [.lst l,.tup (l++[o1]),o2,.tup l.reverse,.tup (l.drop 1)]):=b8 (by simp)
       simp only[sl1,ml,au]
       refine Rn.bind (cQ (m:=5) hp3 (by decide) (by decide)) fun d3 M4 ⟨t,gt,e,hp4,s4⟩=>?_
       subst e
       have hm':∀ x∈([.lst l,.tup (l++[o1]),o2,.tup l.reverse,.tup (l.drop 1)]:List D),Gd (B + 10 ^ 12) (n + 1 + 2) x∧wt x≤2 * wt (.tup l) + 10000:=by
        have c1:=pL l 1
        intro x hx
        simp only[List.mem_cons,List.not_mem_nil,or_false] at hx
        simp only[wt]
        rcases hx with rfl | rfl | rfl | rfl | rfl
        ·exact⟨.lst fun x hx=>mg (hl x hx),by simp only[wt];omega⟩
        ·exact⟨.tup fun x hx=>by
          rcases List.mem_append.mp hx with hx | hx
          ·exact mg (hl x hx)
          ·rw[List.mem_singleton.mp hx];exact md go,by simp only[wt,fH,aZ];omega⟩
        ·exact⟨(md sH).mono (Nat.le_refl _) (by omega),by omega⟩
        ·exact⟨.tup fun x hx=>mg (hl x (List.mem_reverse.mp hx)),by simp only[wt,tY];omega⟩
        ·exact⟨.tup fun x hx=>mg (hl x (List.mem_of_mem_drop hx)),by simp only[wt];omega⟩
       obtain⟨x,hx,ex⟩:=tK (L:=[.lst l,.tup (l++[o1]),o2,.tup l.reverse,.tup (l.drop 1)]) (t:=t) gt
       rw[ex,au,hR]
       exact Rn.pure ⟨_,rfl,.mk (hm' _ hx).1 (hm' _ hx).2 hp4 (s1.trans (s2.trans (s3.trans s4)))⟩
      ·rw [if_neg hz,au,hK];clear hK hR K
       have l0:0<l.length:=by
        cases l with
        |nil=>simp at hz
        |cons a l=>simp
       refine aG fun K hK=>?_
       simp
       refine Rn.bind (cQ (m:=l.length) hp1 l0 (by omega)) fun d3 M2 ⟨a,ga',e,hp2,s2⟩=>?_
       subst e
       rw[hK];clear hK K
       have c1:=pL l a
       have c2:=pL l (a+1)
       have c3:=mQ (List.getElem_mem ga')
       have c4:aZ (l.drop a)=wt l[a]+2+aZ (l.drop (a+1)):=by rw[List.drop_eq_getElem_cons ga'];simp only[aZ]
       have to1:=Ef l a
       have fr1:(rd (my (some ((a+1:Nat):Int)) none (.tup l)):DM D)=pure (.tup (l.drop (a+1))):=rH l (a+1)
       have fr0:=rH l a
       have one:=CK ga'
       have hwt:wt (.tup l)=aZ l+3:=by simp only[wt]
       have g1:∀x∈l.take a,Gd (B+10^12) (n+2) x:=fun x hx=>mg (hl x (List.mem_of_mem_take hx))
       have g2:∀x∈l.drop (a+1),Gd (B+10^12) (n+2) x:=fun x hx=>mg (hl x (List.mem_of_mem_drop hx))
       have g3:∀x∈l.drop a,Gd (B+10^12) (n+2) x:=fun x hx=>mg (hl x (List.mem_of_mem_drop hx))
       have t1:(l.take a).length≤l.length:=by rw[List.length_take];omega
       have t2:(l.drop (a+1)).length≤l.length:=by rw[List.length_drop];omega
       have t3:(l.drop a).length≤l.length:=by rw[List.length_drop];omega
       have ixa:(rd (aY (.tup l) (nD a)):DM D)=pure l[a]:=iU (List.getElem?_eq_getElem ga')
       have hza:=hl _ (List.getElem_mem ga')
       revert c1 c2 c3 c4 to1 fr1 fr0 one g1 g2 g3 t1 t2 t3 ixa hza
       generalize l[a]=z
       generalize l.take a=ta
       generalize l.drop (a+1)=db
       generalize l.drop a=da
       intro c1 c2 c3 c4 to1 fr1 fr0 one g1 g2 g3 t1 t2 t3 ixa hza
       refine dq fun K hK hR=>?_
       by_cases h1:way=1
       ·have ad:(rd (bY (.tup ta) (.tup db)):DM D)=pure (.tup (ta++db)):=fu (by omega)
        have ew1':(rd (bW (nD way) (.int 1)):DM D)=pure (.bl true):=by rw[ew1,decide_eq_true h1]
        simp[ew1',o8,to1]
        simp only[fj,au,o8,fr1,ad,hR]
        refine Rn.pure ⟨_,rfl,.mk (.tup fun x hx=>?_) ?_ hp2 (s1.trans s2)⟩
        ·rcases List.mem_append.mp hx with hx | hx
         ·exact g1 x hx
         ·exact g2 x hx
        ·rw[hwt];simp only[wt,fH];omega
       simp[ew1,h1]
       rw[hK];clear hK hR K
       refine dq fun K hK hR=>?_
       by_cases h2:way=2
       ·have ad:(rd (bY (.tup ta) (.tup [z])):DM D)=pure (.tup (ta++[z])):=fu (by simp;omega)
        have ad':(rd (bY (.tup (ta++[z])) (.tup da)):DM D)=pure (.tup (ta++[z]++da)):=fu (by simp;omega)
        have ew2':(rd (bW (nD way) (.int 2)):DM D)=pure (.bl true):=by rw[ew2,decide_eq_true h2]
        simp[ew2',o8,to1]
        simp only[fj,au,o8,fr0,one,ad,ad',hR]
        refine Rn.pure ⟨_,rfl,.mk (.tup fun x hx=>?_) ?_ hp2 (s1.trans s2)⟩
        ·rcases List.mem_append.mp hx with hx | hx
         ·rcases List.mem_append.mp hx with hx | hx
          ·exact g1 x hx
          ·rw[List.mem_singleton.mp hx];exact mg hza
         ·exact g3 x hx
        ·rw[hwt];simp only[wt,fH,aZ];omega
       simp[ew2,h2]
       rw[hK];clear hK hR K
       simp[o8,to1,ixa]
       refine Rn.bind (ih (by omega) hza hp2 (by omega)) fun r M3 ⟨⟨gr,wr⟩,hp3,s3⟩=>?_
       have mk1:cV [r]=pure (.tup [r]):=cu (by simp)
       have ad:(rd (bY (.tup ta) (.tup [r])):DM D)=pure (.tup (ta++[r])):=fu (by simp;omega)
       have ad':(rd (bY (.tup (ta++[r])) (.tup db)):DM D)=pure (.tup (ta++[r]++db)):=fu (by simp;omega)
       simp only[mk1,au,ad,fj,o8,fr1,ad']
       refine Rn.pure ⟨_,rfl,.mk (.tup fun x hx=>?_) ?_ hp3 (s1.trans (s2.trans s3))⟩
       ·rcases List.mem_append.mp hx with hx | hx
        ·rcases List.mem_append.mp hx with hx | hx
         ·exact g1 x hx
         ·rw[List.mem_singleton.mp hx];exact gr
        ·exact g2 x hx
       ·rw[hwt];simp only[wt,fH,aZ];omega
    |_=>cases hT
   ·rw [Bool.not_eq_true] at hT
    simp[hT]
    simp[hd.pU]
    have odw:Rn (pO [.ref p]) M1 fun r M'=>xR B n d p M r M':=(oR hp1).mono fun r M' ⟨⟨a,b⟩,c,e⟩=>.mk (a.mono (by omega) (by omega)) (by omega) c (s1.trans e)
    by_cases hN:isNm d=true
    ·obtain ⟨i,bi,e1,e2,e3⟩:=hd.num hN
     have lt5:(rd (lM (nD way) (.int 5)):DM D)=pure (.bl (decide (way<5))):=Bp way 5
     simp[hN,lt5]
     by_cases h5:way<5
     ·have ml:cN [.int (i+1),.int (i-1),.int (0-i),.bl true,.int (i+7)]=pure (.lst [.int (i+1),.int (i-1),.int (0-i),.bl true,.int (i+7)]):=b8 (by simp)
      have hm':∀x∈([.int (i+1),.int (i-1),.int (0-i),.bl true,.int (i+7)]:List D),Gd (B+10^12) (n+2) x∧wt x≤2*wt d+10000:=by
       intro x hx
       simp only[List.mem_cons,List.not_mem_nil,or_false] at hx
       rcases hx with rfl | rfl | rfl | rfl | rfl
       ·exact⟨.int (by omega),by simp only[wt];omega⟩
       ·exact⟨.int (by omega),by simp only[wt];omega⟩
       ·exact⟨.int (by omega),by simp only[wt];omega⟩
       ·exact⟨.bl _,by simp only[wt];omega⟩
       ·exact⟨.int (by omega),by simp only[wt];omega⟩
      obtain⟨x,hx,ex⟩:=tK (L:=[.int (i+1),.int (i-1),.int (0-i),.bl true,.int (i+7)]) (t:=way) h5
      simp only[h5,↓reduceIte,e1,e2,e3,au,ml,ex,hR]
      exact Rn.pure ⟨_,rfl,.mk (hm' _ hx).1 (hm' _ hx).2 hp1 s1⟩
     ·simp[h5]
      exact Rn.bind odw fun r M' q=>by rw[hR];exact Rn.pure ⟨_,rfl,q⟩
    ·rw[Bool.not_eq_true] at hN
     simp[hN]
     exact Rn.bind odw fun r M' q=>by rw[hR];exact Rn.pure ⟨_,rfl,q⟩
noncomputable def fX:D->Bool
 |.int _=>true
 |_=>false
noncomputable def dZ(n:Nat):D->Bool
 |.int i=>decide (0≤i)&&decide (i<n)
 |_=>false
theorem Gd.isB{B n:Nat}{d:D}(h:Gd B n d)(hN:isNm d=true):(rd (fY [d,.ty "bool"]):DM D)=pure (.bl (!fX d)):=by
 cases h with
 |bl b=>exact b7 (t := "bool") (fun _=>rfl) (by decide)
 |int _=>exact b7 (t := "int") (fun _=>rfl) (by decide)
 |_=>cases hN
theorem Gd.iw{B n:Nat}{d:D}(h:Gd B n d):kj [d]=pure (.bl (fX d)):=by
 by_cases hN:isNm d=true
 ·simp[kj,gF,h.pU,hN,h.isB hN]
 ·have:fX d=false:=by cases d<;>first | rfl | (exact absurd rfl hN)
  rw[Bool.not_eq_true] at hN
  simp[kj,gF,h.pU,hN,this]
theorem Gd.ip {B n:Nat}{d:D} (h:Gd B n d) (m:Nat):mV [d,nD m]=pure (.bl (dZ m d)):=by
 by_cases hW:fX d=true
 ·cases h with
  | @int _ i hi=>
    have e1:(rd (pW (.int 0) (.int i)):DM D)=pure (.bl (decide (0≤i))):=xN 0 i
    have e2:(rd (lM (.int i) (nD m)):DM D)=pure (.bl (decide (i<m))):=pF i m
    by_cases h0:0≤i
    ·simp[mV,gD,(Gd.int (n:=0) hi).iw,fX,h0,e2,dZ]
    ·simp[mV,gD,(Gd.int (n:=0) hi).iw,fX,h0,dZ]
  |_=>cases hW
 ·have e:dZ m d=false:=by cases d<;>first | rfl | (exact absurd rfl hW)
  rw[Bool.not_eq_true] at hW
  simp[mV,gD,h.iw,hW,e]
noncomputable def n6:=aP 1 1 gU
theorem Gd.lw{B n:Nat}{d:D}(h:Gd B n d):n6 [d]=pure (.bl (fX d)):=by
 by_cases hN:isNm d=true
 ·simp[n6,gU,h.pU,hN,h.isB hN]
 ·have:fX d=false:=by cases d<;>first | rfl | (exact absurd rfl hN)
  rw[Bool.not_eq_true] at hN
  simp[n6,gU,h.pU,hN,this]
theorem pZ {m:Nat}:∀ {l:List D},l.all (dZ m)=true->∃ ps:List Nat,l=ps.map nD∧∀ x∈ps,x<m
 |[],_=>⟨[],rfl,fun _ h=>by cases h⟩
 | d::l,h=>by
   rw[List.all_cons,Bool.and_eq_true] at h
   obtain⟨ps,rfl,hp⟩:=pZ h.2
   have h1:=h.1
   cases d with
   | int i=>
     simp only[dZ,Bool.and_eq_true,decide_eq_true_eq] at h1
     refine⟨i.toNat::ps,?_,fun x hx=>?_⟩
     ·have:nD i.toNat=.int i:=by unfold nD;congr 1;omega
      simp[this]
     ·rcases List.mem_cons.mp hx with rfl | hx
      ·omega
      ·exact hp x hx
   |_=>cases h1
noncomputable def cC(w:List Nat):Nat:=ga w (w.length-1)
theorem xM{w:List Nat}(h:0<w.length):(rd (aY (nT w) (.int (-1))):DM D)=pure (nD (cC w)):=bR fun M=>by
 show atI (w.map nD) (-1)=_
 unfold atI
 have e:ixN (w.map nD).length (-1)=some (w.length-1):=by
  rw[List.length_map]
  unfold ixN
  rw[if_neg (by omega),if_pos (by omega)]
  congr 1
  omega
 rw[e]
 show (w.map nD)[w.length-1]?=_
 rw[List.getElem?_map,List.getElem?_eq_getElem (by omega),cC,mH (by omega)];rfl
theorem xW{fe:aa->DM D}{x:Option D}{rest:aa}{l:List D}(e:D->D)(hl:l.length≤1000000)(h:∀d∈l,fe (some d::rest)=pure (e d)) :
  dj (bx (gN 0) (fun _=>pure true) (bu fe) l (x::rest) [])=pure (gJ x l::rest,l.map e):=by
 have:=fJ (x:=x) (rest:=rest) (as:=l) (fe:=fe) id e hl h
 simpa using this
theorem BW{ft:aa->DM Bool}{fe:aa->DM D}{x:Option D}{rest:aa}{l:List D}(p:D->Bool)(e:D->D)(hl:l.length≤1000000)(h1:∀d∈l,ft (some d::rest)=pure (p d))(h2:∀d∈l,p d=true->fe (some d::rest)=pure (e d)) :
  dj (bx (gN 0) ft (bu fe) l (x::rest) [])=pure (gJ x l::rest,(l.filter p).map e):=by
 have:=bc (x:=x) (rest:=rest) (as:=l) (ft:=ft) (fe:=fe) id p e hl h1 h2
 simpa using this
theorem vZ(a b:List Nat):(rd (cR (.lst (a.map nD)) (.lst (b.map nD))):DM D)=pure (.bl (!decide (a=b))):=bR fun M=>by
 have e:∀l:List Nat,l.map nD=(l.map fun n:Nat=>(n:Int)).map D.int:=fun l=>by rw[List.map_map];rfl
 have d:=gH (a.map fun n:Nat=>(n:Int))
 have q:=iK (a.map fun n:Nat=>(n:Int)) (b.map fun n:Nat=>(n:Int))
 have c:decide ((a.map fun n:Nat=>(n:Int))=(b.map fun n:Nat=>(n:Int)))=decide (a=b):=by
  rw[Bool.eq_iff_iff,decide_eq_true_eq,decide_eq_true_eq]
  exact jK
 rw[e a,e b]
 simp only[cR,L3.eqB,eqP,toPy,gK,Option.map_some,PyData.canLay0,lay_ints,PyData.depth,PyData.eqv]
 rw[q,c,if_pos (by rw[Bool.and_self,Bool.true_and];exact decide_eq_true (by omega))]
 rfl
theorem yQ(k:Nat):(rd (cR (.lst (List.replicate k (.int 1))) (.lst [])):DM D)=pure (.bl (decide (k≠0))):=by
 have:=vZ (List.replicate k 1) []
 rw[List.map_replicate] at this
 rw[show (D.int 1)=nD 1 from rfl]
 refine this.trans ?_
 congr 2
 rw[Bool.eq_iff_iff]
 simp
theorem pD{a b:List D}(h:a.length+b.length≤1000000):(rd (bY (.lst a) (.lst b)):DM D)=pure (.lst (a++b)):=bR fun M=>by
 have:du (a++b)=true:=by unfold du;exact decide_eq_true (by show _≤2^24;rw[List.length_append];omega)
 simp[bY,aV,xg,this]
theorem Gd.nats{ps:List Nat}{B:Nat}(h:∀x∈ps,x≤B):Gd B 1 (nT ps):=.tup fun x hx=>by
 obtain⟨n,hn,rfl⟩:=List.mem_map.mp hx
 exact .int (by have:=h n hn;simpa using this)
theorem nY:∀l:List Nat,aZ (l.map nD)=1923*l.length
 |[]=>rfl
 |a::l=>by have:=nY l;simp only[List.map_cons,aZ,nD,wt,List.length_cons] at this ⊢;omega
theorem vU(a b:List Nat):(rd (bW (.lst (a.map nD)) (.lst (b.map nD))):DM D)=pure (.bl (decide (a=b))):=bR fun M=>by
 have e:∀l:List Nat,l.map nD=(l.map fun n:Nat=>(n:Int)).map D.int:=fun l=>by rw[List.map_map];rfl
 have d:=gH (a.map fun n:Nat=>(n:Int))
 have q:=iK (a.map fun n:Nat=>(n:Int)) (b.map fun n:Nat=>(n:Int))
 have c:decide ((a.map fun n:Nat=>(n:Int))=(b.map fun n:Nat=>(n:Int)))=decide (a=b):=by
  rw[Bool.eq_iff_iff,decide_eq_true_eq,decide_eq_true_eq]
  exact jK
 rw[e a,e b]
 simp only[bW,L3.eqB,eqP,toPy,gK,Option.map_some,PyData.canLay0,lay_ints,PyData.depth,PyData.eqv]
 rw[q,c,if_pos (by rw[Bool.and_self,Bool.true_and];exact decide_eq_true (by omega))]
 rfl
noncomputable def km:=aP 2 2 (gW mV lz)
noncomputable def cW:=aP 5 5 (bH n6)
noncomputable def gM(R:List (List Nat))(ps:List Nat):Bool:=(List.range (ps.length-1)).all fun i=>decide (0<ga (gr R (ga ps i)) (ga ps (i+1)))
theorem BJ {R:List (List Nat)}{W B n:Nat}{d:D} (wk:WK R W) (h:Gd B n d) (hw:wt d≤1000000):∃ b:Bool,km [bU R W,d]=pure (.bl b) ∧
  (b=false->∀(s:Int) (x:Nat) (y:Int),0≤s->cW [nM R,d,.int s,nD x,.int y]=pure (.bl false)) ∧
  (b=true->∃ps:List Nat,d=nT ps∧0<ps.length∧(∀x∈ps,x<R.length)∧∀(s:Int) (x:Nat) (y:Int),0≤s->cW [nM R,d,.int s,nD x,.int y]=pure (.bl (decide ((ps.length:Int)=s+1)&&(decide (ga ps 0=x)&&decide ((cC ps:Int)=y))))):=by
 have isT:=h.isT
 by_cases hT:qN d=false
 ·exact⟨false,by simp[km,gW,isT,hT],fun _ s x y _=>by simp[cW,bH,isT,hT],fun z=>by cases z⟩
 cases h with
 | @tup n l hl=>
   have hlen:=pM l
   have hwl:aZ l+3≤1000000:=by simpa only[wt] using hw
   have n25:=wk.n25
   have tr:(rd (nW (.tup l)):DM Bool)=pure (!l.isEmpty):=bR fun M=>rfl
   have c1:=xW (x:=none) (rest:=[some (bU R W)]) (l:=l) (fe:=fun δ=>opt δ[0]?.join>>=fun a=>opt δ[1]?.join>>=fun b=>qQ (Str.ofString "Walk") lz [b]>>=fun c=>mV [a,c]) (fun d=>.bl (dZ R.length d)) (by omega) (fun d hd=>by simp[sU n25,(hl d hd).ip])
   have c2:=BW (x:=none) (rest:=[some (nM R)]) (l:=l) (ft:=fun δ=>opt δ[0]?.join >>= fun a=>n6 [a] >>= fun a=>rd (nW a) >>= fun a=>if a=false then pure true else opt δ[0]?.join >>= fun a=>rd (pW (D.int 0) a) >>= fun a_1=>cU a_1 >>= fun a_2=>(if a_2=true then opt δ[1]?.join >>= fun a_3=>rd (fZ [a_3]) >>= fun w=>rd (lM a w) else pure (D.bl false)) >>= fun a=>cU a >>= fun k=>pure !k) (fe:=fun x=>pure (D.int 1)) (fun d=>!dZ R.length d) (fun _=>.int 1) (by omega) (fun d hd=>by
    have hw:=(hl d hd).lw
    by_cases hW:fX d=true
    ·cases d with
     |int i=>
       have e1:(rd (pW (.int 0) (.int i)):DM D)=pure (.bl (decide (0≤i))):=xN 0 i
       have e2:(rd (lM (.int i) (nD R.length)):DM D)=pure (.bl (decide (i<R.length))):=pF i R.length
       by_cases h0:0≤i
       ·simp[hw,hW,h0,cO,e2,dZ]
       ·simp[hw,hW,h0,dZ]
     |_=>cases hW
    ·have e:dZ R.length d=false:=by cases d<;>first | rfl | (exact absurd rfl hW)
     rw[Bool.not_eq_true] at hW
     simp[hw,hW,e]) (fun _ _ _=>rfl)
   have al:(rd (gR [.lst (l.map fun d=>.bl (dZ R.length d))]):DM D)=pure (.bl (l.all (dZ R.length))):=by
    have:=jF (l.map (dZ R.length))
    rw[List.map_map] at this
    simpa[Function.comp_def] using this
   have m0:cN []=pure (.lst []):=b8 (by simp)
   have ne0:(rd (cR (.lst ((l.filter fun d=>!dZ R.length d).map fun _=>.int 1)) (.lst [])):DM D)=pure (.bl (!l.all (dZ R.length))):=by
    rw[List.map_const',yQ]
    congr 2
    rw[Bool.eq_iff_iff]
    simp
   have lne:∀s:Int,(rd (cR (.int (l.length:Int)) (.int (s+1))):DM D)=pure (.bl (!decide ((l.length:Int)=s+1))):=fun s=>uF _ _
   by_cases hE:l.isEmpty=true
   ·have hl0:l.length=0:=by simpa using hE
    refine⟨false,by simp[km,gW,isT,hT,tr,hE],fun _ s x y hs=>?_,fun z=>by cases z⟩
    have:decide ((l.length:Int)=s+1)=false:=decide_eq_false (by omega)
    simp[cW,bH,isT,hT,lne,this]
   rw[Bool.not_eq_true] at hE
   by_cases hA:l.all (dZ R.length)=false
   ·refine ⟨false,?_,fun _ s x y hs=>?_,fun z=>by cases z⟩
    ·simp[km,gW,isT,hT,tr,hE,aQ,bz]
     simp[c1,al,hA]
    ·by_cases hs1:(l.length:Int)=s+1
     ·simp[cW,bH,isT,hT,aQ,bz]
      simp[lne,hs1,c2,m0,ne0,hA]
     ·simp[cW,bH,isT,hT,lne,hs1]
   ·rw [Bool.not_eq_false] at hA
    obtain⟨ps,he,hp⟩:=pZ hA
    have el:l.length=ps.length:=by rw[he,List.length_map]
    have et:D.tup l=nT ps:=by rw[he];rfl
    have p0:0<ps.length:=by rw[←el];cases l with
     |nil=>cases hE
     |cons a l=>simp
    have rg:rG [D.int 1,D.int (l.length:Int)]=some (.fix ((List.range (l.length-1)).map fun k=>nD (1+k))):=zy (a:=1) (b:=l.length) (by decide) (by omega)
    have rw1:∀k,k<ps.length->(gr R (ga ps k)).length=R.length:=fun k hk=>wk.row _ (gr_mem (hp _ (dF hk)))
    have c3:=fJ (x:=none) (rest:=[some (bU R W),some (D.tup l)]) (as:=List.range (l.length-1)) (fe:=fun δ=>opt δ[1]?.join>>=fun a=>rd (qH (Str.ofString "Walk") (Str.ofString "rows") a)>>=fun a=>opt δ[2]?.join>>=fun a_1=>opt δ[0]?.join>>=fun a_2=>rd (jk a_2 (D.int 1))>>=fun a_3=>rd (aY a_1 a_3)>>=fun a_4=>rd (aY a a_4)>>=fun a=>opt δ[2]?.join>>=fun a_5=>opt δ[0]?.join>>=fun a_6=>rd (aY a_5 a_6)>>=fun a_7=>rd (aY a a_7)>>=fun x=>rd (gB x (D.int 0))) (fun k=>nD (1+k)) (fun k=>.bl (decide (0<ga (gr R (ga ps k)) (ga ps (k+1))))) (by simp;omega) (fun k hk=>by
     have hk:=List.mem_range.mp hk
     have s1:(rd (jk (nD (1+k)) (.int 1)):DM D)=pure (nD k):=by rw[show D.int 1=nD 1 from rfl,oY (by omega),Nat.add_sub_cancel_left]
     have g:∀a:Nat,(rd (gB (nD a) (.int 0)):DM D)=pure (.bl (decide (0<a))):=fun a=>jG a 0
     rw[et]
     simp[qI,s1]
     simp only[dI (l:=ps) (i:=k) (by omega),jT (hp _ (dF (l:=ps) (i:=k) (by omega))),au,dI (l:=ps) (i:=1+k) (by omega),show ga ps (1+k)=ga ps (k+1) by rw[Nat.add_comm],dI (l:=gr R (ga ps k)) (i:=ga ps (k+1)) (by rw[rw1 k (by omega)];exact hp _ (dF (by omega))),g])
    have al2:(rd (gR [.lst ((List.range (l.length-1)).map fun k=>.bl (decide (0<ga (gr R (ga ps k)) (ga ps (k+1)))))]):DM D)=pure (.bl (gM R ps)):=by
     have:=jF ((List.range (l.length-1)).map fun k=>decide (0<ga (gr R (ga ps k)) (ga ps (k+1))))
     rw[List.map_map] at this
     rw[el] at this ⊢
     refine Eq.trans ?_ (this.trans ?_)
     ·rfl
     ·unfold gM;rw[List.all_map];rfl
    have law:∀ (s:Int) (x:Nat) (y:Int),0≤s->cW [nM R,.tup l,.int s,nD x,.int y]=pure (.bl (decide ((ps.length:Int)=s + 1) && (decide (ga ps 0=x) && decide ((cC ps:Int)=y)) && gM R ps)):=by
     intro s x y hs
     by_cases hs1:(l.length:Int)=s+1
     ·have h1:(ps.length:Int)=s + 1:=by omega
      obtain⟨k,rfl⟩:∃k:Nat,s=(k:Int):=⟨s.toNat,by omega⟩
      have hk:ps.length=k+1:=by omega
      have lq:(rd (cR (.int (l.length:Int)) (.int ((k:Int)+1))):DM D)=pure (.bl false):=by rw[lne,decide_eq_true hs1];rfl
      have i0:(rd (aY (.tup l) (.int 0)):DM D)=pure (nD (ga ps 0)):=by rw[et];exact dI (l:=ps) (i:=0) p0
      have ik:(rd (aY (.tup l) (.int (k:Int))):DM D)=pure (nD (cC ps)):=by
       rw[et]
       have:=dI (l:=ps) (i:=k) (by omega)
       unfold cC
       rw[hk];exact this
      have n0:=lX (ga ps 0) x
      have nk:(rd (cR (nD (cC ps)) (.int y)):DM D)=pure (.bl (!decide ((cC ps:Int)=y))):=uF _ _
      have rg1:jf [.int (k:Int)]=some (.fix ((List.range k).map nD)):=bJ (n:=k) (by omega)
      have c4:=bc (x:=none) (rest:=[some (nM R),some (D.tup l)]) (as:=List.range k) (ft:=fun δ=>opt δ[1]?.join>>=fun a=>opt δ[2]?.join>>=fun a_1=>opt δ[0]?.join>>=fun a_2=>rd (aY a_1 a_2)>>=fun a_3=>rd (aY a a_3)>>=fun a=>opt δ[2]?.join>>=fun a_4=>opt δ[0]?.join>>=fun a_5=>rd (bY a_5 (D.int 1))>>=fun a_6=>rd (aY a_4 a_6)>>=fun a_7=>rd (aY a a_7)>>=fun a=>rd (bW a (D.int 0))>>=cU) (fe:=iY 0) nD (fun i=>decide (ga (gr R (ga ps i)) (ga ps (i+1))=0)) nD (by simp;omega) (fun i hi=>by
       have hi:=List.mem_range.mp hi
       have g:∀a:Nat,(rd (bW (nD a) (.int 0)):DM D)=pure (.bl (decide (a=0))):=fun a=>bM a 0
       rw[et]
       simp only[dm]
       simp only[dI (l:=ps) (i:=i) (by omega),jT (hp _ (dF (l:=ps) (i:=i) (by omega))),au,fj,dI (l:=ps) (i:=i+1) (by omega),dI (l:=gr R (ga ps i)) (i:=ga ps (i+1)) (by rw[rw1 i (by omega)];exact hp _ (dF (by omega))),g,dB]) (fun i hi _=>by simp)
      have e0:=vU ((List.range k).filter fun i=>decide (ga (gr R (ga ps i)) (ga ps (i+1))=0)) []
      have e1:decide (((List.range k).filter fun i=>decide (ga (gr R (ga ps i)) (ga ps (i+1))=0))=[])=gM R ps:=by
       unfold gM
       rw[hk,Nat.add_sub_cancel,Bool.eq_iff_iff]
       simp[Nat.pos_iff_ne_zero]
      rw[e1] at e0
      by_cases hx:ga ps 0=x
      ·have n0t:(rd (cR (nD (ga ps 0)) (nD x)):DM D)=pure (.bl false):=by rw[n0,decide_eq_true hx];rfl
       by_cases hy:(cC ps:Int)=y
       ·have nkt:(rd (cR (nD (cC ps)) (.int y)):DM D)=pure (.bl false):=by rw[nk,decide_eq_true hy];rfl
        have dx:decide (ga ps 0=x)=true:=decide_eq_true hx
        have dy:decide ((cC ps:Int)=y)=true:=decide_eq_true hy
        rw[decide_eq_true h1,dx,dy,Bool.and_self,Bool.and_self,Bool.true_and]
        simp[cW,bH,isT,hT,aQ,bz,hs1]
        simp[c2,m0,ne0,hA,i0,n0t,ik,nkt,rg1]
        rw[c4,au]
        simp only[List.map_nil] at e0
        rw[e0]
       ·simp[cW,bH,isT,hT,aQ,bz,hs1]
        simp[c2,m0,ne0,hA,i0,n0t,ik,nk,hy]
      ·simp[cW,bH,isT,hT,aQ,bz,hs1]
       simp[c2,m0,ne0,hA,i0,n0,hx]
     ·have h1:¬ (ps.length:Int)=s+1:=by omega
      simp[cW,bH,isT,hT,lne,hs1,h1]
    refine⟨gM R ps,?_,?_,?_⟩
    ·simp[km,gW,isT,hT,tr,hE,aQ,bz]
     simp[c1,al,hA,rg]
     rw[c3,au,al2]
    ·intro hb s x y hs
     rw[law s x y hs,hb,Bool.and_false]
    ·intro hb
     refine⟨ps,et,p0,hp,fun s x y hs=>?_⟩
     rw[law s x y hs,hb,Bool.and_true]
 |_=>exact absurd rfl hT
theorem u6 {fe:aa->DM D}{rest:aa}{n:Nat}{h R:Nat->D}{x y:Option D} (hn:n≤1000) (hf:∀ j,j<n->fe (some (nD j)::some (h j)::rest)=pure (R j)) {β:Type}{k:aa×List D->DM β} (k':List D->DM β) (hk:∀ q,k q=k' q.2) :
  (dj (bx (gT 2 (jy (gN 0) (jy (gN 1) qg))) (fun _=>pure true) (bu fe) ((List.range n).map fun j=>.tup [nD j,h j]) (x::y::rest) [])>>=k)=k' ((List.range n).map R):=by
 let f1:D->D:=fun d=>match d with | .tup [a,b]=>a | _=>.non
 let f2:D->D:=fun d=>match d with | .tup [a,b]=>b | _=>.non
 let e:D->D:=fun d=>match d with | .tup [.int i,_]=>R i.toNat | _=>.non
 obtain ⟨δ',q⟩:=nH (fg:=gT 2 (jy (gN 0) (jy (gN 1) qg))) (ft:=fun _=>pure true) (fe:=fe) (fun δ=>∃ x y,δ=x::y::rest) (fun d=>some (f1 d)::some (f2 d)::rest) (fun _=>true) e ((List.range n).map fun j=>.tup [nD j,h j]) (x::y::rest) [] ⟨x,y,rfl⟩ (by simp;omega)
  (fun d hd δ ⟨x,y,hδ⟩=>by
    obtain⟨j,_,rfl⟩:=List.mem_map.mp hd
    exact⟨by subst hδ;rfl,_,_,rfl⟩) (fun d _=>rfl) (fun d hd _=>by
    obtain⟨j,hj,rfl⟩:=List.mem_map.mp hd
    have:=hf j (List.mem_range.mp hj)
    show fe (some (nD j)::some (h j)::rest)=pure (R (j:Int).toNat)
    rw[Int.toNat_natCast];exact this)
 have m:(((List.range n).map fun j=>D.tup [nD j,h j]).filter fun _=>true).map e=(List.range n).map R:=by
  rw[List.filter_eq_self.mpr (fun _ _=>rfl),List.map_map]
  refine List.map_congr_left fun j _=>?_
  show R (j:Int).toNat=R j
  rw[Int.toNat_natCast]
 rw[q,m]
 simp[hk]
open Classical in
noncomputable def o7(R:List (List Nat))(W:Nat)(d:D):Bool:=if km [bU R W,d]=pure (.bl true) then true else false
theorem rM {R:List (List Nat)}{W:Nat}{d:D}{b:Bool} (h:km [bU R W,d]=pure (.bl b)):o7 R W d=b:=by
 unfold o7
 cases b with
 |true=>rw[if_pos h]
 |false=>
   rw[if_neg]
   intro h2
   rw[h] at h2
   have:=congrFun h2 []
   have e:(some (L3.R.ok (D.bl false),([]:Mo)):Option (L3.R D×Mo))=some (.ok (.bl true),[]):=this
   cases e
noncomputable def jm:=aP 2 6 (bL mV kj km lz)
noncomputable def d8:=aP 2 2 (aK n6 cW)
noncomputable def dg(l:List D)(j:Nat):D:=l.getD j .non
theorem qT:∀ (l:List D) (k:Nat),gf k l=(List.range l.length).map fun j=>.tup [nD (k + j),dg l j]
 |[],k=>rfl
 |a::l,k=>by
   rw[List.length_cons,List.range_succ_eq_map,List.map_cons,List.map_map]
   simp only[gf,qT l (k+1)]
   simp[nD,Function.comp_def,dg]
   intro a _;omega
noncomputable def tV(t:Int×Int×Int):D:=.tup [.int t.1,.int t.2.1,.int t.2.2]
theorem wX (a b:List (Int×Int×Int)):(rd (bW (.lst (a.map tV)) (.lst (b.map tV))):DM D)=pure (.bl (decide (a=b))):=bR fun M=>by
 have h1:∀l:List (Int×Int×Int),dU (l.map tV)=some (l.map fun t=>.tuple [.int t.1,.int t.2.1,.int t.2.2]):=fun l=>by
  induction l with
  |nil=>rfl
  |cons t l ih=>simp only[List.map_cons,dU,ih,tV,toPy,Option.map_some]
 have h2:∀l:List (Int×Int×Int),PyData.canLayAll0 (l.map fun t=>PyData.tuple [.int t.1,.int t.2.1,.int t.2.2])=true:=fun l=>by
  induction l with
  |nil=>simp[PyData.canLayAll0]
  |cons t l ih=>simp[PyData.canLayAll0,PyData.canLay0,ih]
 have h3:∀l:List (Int×Int×Int),PyData.depthAll (l.map fun t=>PyData.tuple [.int t.1,.int t.2.1,.int t.2.2])≤5:=fun l=>by
  induction l with
  |nil=>simp[PyData.depthAll]
  |cons t l ih=>simp only[List.map_cons,PyData.depthAll,PyData.depth];omega
 have h4:∀ a b:List (Int×Int×Int),PyData.eqvAll (a.map fun t=>.tuple [.int t.1,.int t.2.1,.int t.2.2]) (b.map fun t=>.tuple [.int t.1,.int t.2.1,.int t.2.2])=decide (a=b):=by
  intro a
  induction a with
  |nil=>intro b;cases b<;>simp[PyData.eqvAll]
  | cons t a ih=>
    intro b
    cases b with
    |nil=>simp[PyData.eqvAll]
    |cons u b=>
      simp only[List.map_cons,PyData.eqvAll,PyData.eqv,ih b]
      obtain⟨t1,t2,t3⟩:=t
      obtain⟨u1,u2,u3⟩:=u
      rw[Bool.eq_iff_iff]
      simp
 have d:=h3 a
 simp only[bW,L3.eqB,eqP,toPy,h1,Option.map_some,PyData.canLay0,h2,PyData.depth,PyData.eqv,h4]
 rw[if_pos (by rw[Bool.and_self,Bool.true_and];exact decide_eq_true (by omega))]
 rfl
open Classical in
noncomputable def sS(R:List (List Nat))(d:D)(s:Int)(x:Nat)(y:Int):Bool:=if cW [nM R,d,.int s,nD x,.int y]=pure (.bl true) then true else false
theorem oN {R:List (List Nat)}{d:D}{s:Int}{x:Nat}{y:Int}{b:Bool} (h:cW [nM R,d,.int s,nD x,.int y]=pure (.bl b)):sS R d s x y=b:=by
 unfold sS
 cases b with
 |true=>rw[if_pos h]
 |false=>
   rw[if_neg]
   intro h2
   rw[h] at h2
   have:=congrFun h2 []
   have e:(some (L3.R.ok (D.bl false),([]:Mo)):Option (L3.R D×Mo))=some (.ok (.bl true),[]):=this
   cases e
theorem sW {P:List Nat->Prop}:∀ {ws:List D},(∀ w∈ws,∃ ps:List Nat,w=nT ps∧P ps)->∃ pss:List (List Nat),ws=pss.map nT∧∀ ps∈pss,P ps
 |[],_=>⟨[],rfl,fun _ h=>by cases h⟩
 |w::ws,h=>by
   obtain⟨ps,rfl,hp⟩:=h w (.head _)
   obtain⟨pss,rfl,hq⟩:=sW fun w hw=>h w (.tail _ hw)
   refine⟨ps::pss,rfl,fun x hx=>?_⟩
   rcases List.mem_cons.mp hx with rfl | hx
   ·exact hp
   ·exact hq x hx
theorem getD_mem{l:List D}{j:Nat}(h:j<l.length):dg l j∈l:=by
 rw[dg,List.getD_eq_getElem?_getD,List.getElem?_eq_getElem h];exact List.getElem_mem h
theorem Aq {R:List (List Nat)}{W B n:Nat}{d:D} (wk:WK R W) (h:Gd B n d) (hw:wt d≤1000000):∃ b:Bool,jm [bU R W,d]=pure (.bl b)∧d8 [nM R,d]=pure (.bl b):=by
 have isT:=h.isT
 by_cases hT:qN d=false
 ·exact⟨false,by simp[jm,bL,isT,hT],by simp[d8,aK,isT,hT]⟩
 cases h with
 | @tup n l hl=>
   have hwl:aZ l+3≤1000000:=by simpa only[wt] using hw
   have n25:=wk.n25
   have n1:=wk.n1
   have l3:(rd (cR (.int (l.length:Int)) (.int 3)):DM D)=pure (.bl (!decide (l.length=3))):=lX l.length 3
   by_cases h3:¬ l.length=3
   ·have l3f:(rd (cR (.int (l.length:Int)) (.int 3)):DM D)=pure (.bl true):=by rw[l3,decide_eq_false h3];rfl
    exact⟨false,by simp[jm,bL,isT,hT,l3f],by simp[d8,aK,isT,hT,l3f]⟩
   have h3:l.length=3:=by omega
   obtain⟨s,q,w,rfl⟩:∃s q w,l=[s,q,w]:=by
    match l,h3 with
    |[s,q,w],_=>exact⟨s,q,w,rfl⟩
   clear l3 h3
   have hs:=hl s (by simp)
   have hq:=hl q (by simp)
   have hwy:=hl w (by simp)
   have i0:(rd (aY (.tup [s,q,w]) (.int 0)):DM D)=pure s:=iU (i:=0) rfl
   have i1:(rd (aY (.tup [s,q,w]) (.int 1)):DM D)=pure q:=iU (i:=1) rfl
   have i2:(rd (aY (.tup [s,q,w]) (.int 2)):DM D)=pure w:=iU (i:=2) rfl
   by_cases hS:fX s=false
   ·exact⟨false,by simp[jm,bL,isT,hT,hs.iw,hS],by simp[d8,aK,isT,hT,i0,hs.lw,hS]⟩
   rw[Bool.not_eq_false] at hS
   obtain⟨i,rfl⟩:∃i,s=.int i:=by cases s<;>first | exact⟨_,rfl⟩ | cases hS
   have iwS:=hs.iw
   have lwS:=hs.lw
   rw[hS] at iwS lwS
   have li:(rd (lM (.int i) (.int 0)):DM D)=pure (.bl (decide (i<0))):=pF i 0
   have lw0:=sU (R:=R) (W:=W) n25
   by_cases hP:dZ R.length q=false
   ·refine⟨false,by simp[jm,bL,isT,hT,iwS,hq.ip,lw0,hP],?_⟩
    by_cases hi:i<0
    ·simp[d8,aK,isT,hT,i0,lwS,hi]
    by_cases hQ:fX q=false
    ·simp[d8,aK,isT,hT,i0,i1,lwS,hi,hq.lw,hQ]
    rw[Bool.not_eq_false] at hQ
    obtain⟨y,rfl⟩:∃y,q=.int y:=by cases q<;>first | exact⟨_,rfl⟩ | cases hQ
    have lwQ:=hq.lw
    rw[hQ] at lwQ
    simp only[dZ] at hP
    by_cases hy:0≤y
    ·have hy2:¬ y<R.length:=fun z=>by rw[decide_eq_true hy,decide_eq_true z] at hP;cases hP
     have e2:(rd (lM (.int y) (nD R.length)):DM D)=pure (.bl (decide (y<R.length))):=pF y R.length
     simp[d8,aK,isT,hT,i0,i1,lwS,hi,lwQ,hy,cO,e2,hy2]
    ·simp[d8,aK,isT,hT,i0,i1,lwS,hi,lwQ,hy]
   rw[Bool.not_eq_false] at hP
   obtain⟨y,rfl⟩:∃y,q=.int y:=by cases q<;>first | exact⟨_,rfl⟩ | cases hP
   have ipQ:=hq.ip R.length
   have lwQ:=hq.lw
   rw[show fX (.int y)=true from rfl] at lwQ
   rw[hP] at ipQ
   simp only[dZ,Bool.and_eq_true,decide_eq_true_eq] at hP
   have e2:(rd (lM (.int y) (nD R.length)):DM D)=pure (.bl true):=by rw[show (rd (lM (.int y) (nD R.length)):DM D)=pure (.bl (decide (y<R.length))) from pF y R.length,decide_eq_true hP.2]
   have wT:=hwy.isT
   by_cases hwT:qN w=false
   ·refine⟨false,by simp[jm,bL,isT,hT,iwS,ipQ,lw0,wT,hwT],?_⟩
    by_cases hi:i<0
    ·simp[d8,aK,isT,hT,i0,lwS,hi]
    simp[d8,aK,isT,hT,i0,i1,i2,lwS,hi,lwQ,hP.1,cO,e2,wT,hwT]
   rw[Bool.not_eq_false] at hwT
   obtain⟨ws,rfl⟩:∃ws,w=.tup ws:=by cases w<;>first | exact⟨_,rfl⟩ | cases hwT
   have nl:(rd (cR (.int (ws.length:Int)) (nD R.length)):DM D)=pure (.bl (!decide (ws.length=R.length))):=lX ws.length R.length
   by_cases hL:¬ ws.length=R.length
   ·have nlf:(rd (cR (.int (ws.length:Int)) (nD R.length)):DM D)=pure (.bl true):=by rw[nl,decide_eq_false hL];rfl
    refine⟨false,by simp[jm,bL,isT,hT,iwS,ipQ,lw0,wT,hwT,nlf],?_⟩
    by_cases hi:i<0
    ·simp[d8,aK,isT,hT,i0,lwS,hi]
    simp[d8,aK,isT,hT,i0,i1,i2,lwS,hi,lwQ,hP.1,cO,e2,wT,hwT,nlf]
   have hL:ws.length=R.length:=by omega
   have nlt:(rd (cR (.int (ws.length:Int)) (nD R.length)):DM D)=pure (.bl false):=by rw[nl,decide_eq_true hL];rfl
   clear nl
   cases hwy with
   | @tup n ws hws=>
   have wws:aZ ws+3≤1000000:=by simp only[aZ,wt] at hwl;omega
   have any:=fun w (hw:w∈ws)=>BJ wk (hws w hw) (by have:=mQ hw;omega)
   have fyB:∀w∈ws,km [bU R W,w]=pure (.bl (o7 R W w)):=fun w hw=>by
    obtain⟨b,e,_⟩:=any w hw
    rw[rM e];exact e
   have c1:=xW (x:=none) (rest:=[some (bU R W)]) (l:=ws) (fe:=fun δ=>opt δ[1]?.join>>=fun a=>opt δ[0]?.join>>=fun b=>km [a,b]) (fun w=>.bl (o7 R W w)) (by omega) (fun w hw=>by simp[fyB w hw])
   have al:(rd (gR [.lst (ws.map fun w=>.bl (o7 R W w))]):DM D)=pure (.bl (ws.all (o7 R W))):=by
    have:=jF (ws.map (o7 R W))
    rw[List.map_map] at this
    simpa[Function.comp_def] using this
   have lawI:0≤i->d8 [nM R,.tup [.int i,.int y,.tup ws]]=pure (.bl ((List.range R.length).all fun j=>sS R (dg ws j) i j y)):=by
    intro hi
    have hi':¬ i<0:=by omega
    have en:qe [.tup ws]=some (.fix ((List.range ws.length).map fun j=>.tup [nD j,dg ws j])):=by
     show some (Itn.fix (gf 0 ws))=_
     rw[qT];simp
    have ce:=u6 (n:=ws.length) (h:=fun j=>dg ws j) (R:=fun j=>.bl (sS R (dg ws j) i j y)) (x:=none) (y:=none) (rest:=[some (nM R),some (.tup [.int i,.int y,.tup ws])]) (fe:=fun δ=>opt δ[2]?.join>>=fun a=>opt δ[1]?.join>>=fun b=>opt δ[3]?.join>>=fun c=>rd (aY c (.int 0))>>=fun c=>opt δ[0]?.join>>=fun d=>opt δ[3]?.join>>=fun e=>rd (aY e (.int 1))>>=fun e=>cW [a,b,c,d,e]) (by omega) (fun j hj=>by
     have hm:=getD_mem hj
     obtain⟨b,_,e1,e2⟩:=any _ hm
     have:cW [nM R,dg ws j,.int i,nD j,.int y]=pure (.bl (sS R (dg ws j) i j y)):=by
      cases b with
      |false=>have e:=e1 rfl i j y hi;rw[oN e];exact e
      |true=>obtain⟨ps,_,_,_,e⟩:=e2 rfl;have e:=e i j y hi;rw[oN e];exact e
     simp only[dm,i0,i1,this]) (k:=fun a=>rd (gR [D.lst a.snd])>>=fun d=>pure d) (fun l=>rd (gR [D.lst l])>>=fun d=>pure d) (fun q=>rfl)
    have al3:=jF ((List.range ws.length).map fun j=>sS R (dg ws j) i j y)
    rw[List.map_map,List.all_map] at al3
    simp[d8,aK,isT,hT,i0,i1,i2,lwS,hi',lwQ,hP.1,cO,e2,wT,hwT,nlt,aQ,bz,en]
    simp only[zr] at ce
    rw[ce]
    rw[hL] at al3 ⊢
    exact al3
   have law0:i<0->d8 [nM R,.tup [.int i,.int y,.tup ws]]=pure (.bl false):=by
    intro hi
    simp[d8,aK,isT,hT,i0,lwS,hi]
   by_cases hA:ws.all (o7 R W)=false
   ·refine ⟨false,?_,?_⟩
    ·simp[jm,bL,isT,hT,iwS,ipQ,lw0,wT,hwT,nlt,aQ,bz]
     simp[c1,al,hA]
    ·by_cases hi:i<0
     ·exact law0 hi
     ·rw[lawI (by omega)]
      congr 2
      rw[List.all_eq_false] at hA ⊢
      obtain⟨w,hw,hb⟩:=hA
      obtain⟨j,hj,ej⟩:=List.mem_iff_getElem.mp hw
      refine⟨j,List.mem_range.mpr (by omega),?_⟩
      obtain⟨b,e,e1,_⟩:=any w hw
      have hb':b=false:=by rw[rM e] at hb;simpa using hb
      have:dg ws j=w:=by rw[dg,List.getD_eq_getElem?_getD,List.getElem?_eq_getElem hj,ej];rfl
      rw[this,oN (e1 hb' i j y (by omega))]
      simp
   rw[Bool.not_eq_false,List.all_eq_true] at hA
   obtain⟨pss,ew,hps⟩:=sW (ws:=ws) (P:=fun ps=>0<ps.length∧ps.length≤1000000∧∀(s:Int) (x:Nat) (y:Int),0≤s->cW [nM R,nT ps,.int s,nD x,.int y]=pure (.bl (decide ((ps.length:Int)=s+1)&&(decide (ga ps 0=x)&&decide ((cC ps:Int)=y))))) (fun w hw=>by
    obtain⟨b,e,_,e2⟩:=any w hw
    have hb:b=true:=by have:=hA w hw;rw[rM e] at this;exact this
    obtain⟨ps,rfl,p0,_,e3⟩:=e2 hb
    refine⟨ps,rfl,p0,?_,e3⟩
    have a:=mQ hw
    unfold nT at a
    simp only[wt,nY] at a
    omega)
   have el:ws.length=pss.length:=by rw[ew,List.length_map]
   have hA':ws.all (o7 R W)=true:=List.all_eq_true.mpr hA
   have rg1:jf [nD R.length]=some (.fix ((List.range R.length).map nD)):=bJ (n:=R.length) (by omega)
   refine⟨decide ((pss.map fun ps=>(((ps.length:Int)-1,((ga ps 0:Nat):Int),((cC ps:Nat):Int)):Int×Int×Int))=(List.range R.length).map fun j:Nat=>(i,((j:Nat):Int),y)),?_,?_⟩
   ·simp[jm,bL,isT,hT,iwS,ipQ,lw0,wT,hwT,nlt,aQ,bz]
    simp[c1,al,hA',aQ,bz,lw0,rg1]
    have c5:=fJ (x:=none) (rest:=[]) (as:=pss) (fe:=fun δ=>opt δ[0]?.join>>=fun a=>rd (fZ [a])>>=fun a=>rd (jk a (D.int 1))>>=fun a=>opt δ[0]?.join>>=fun a_1=>rd (aY a_1 (D.int 0))>>=fun a_2=>opt δ[0]?.join>>=fun a_3=>rd (aY a_3 (D.int (-1)))>>=fun a_4=>cV [a,a_2,a_4]) nT (fun ps=>tV ((ps.length:Int)-1,((ga ps 0:Nat):Int),((cC ps:Nat):Int))) (by omega) (fun ps hp=>by
     have p0:=(hps ps hp).1
     have sb:(rd (jk (nD ps.length) (.int 1)):DM D)=pure (.int ((ps.length:Int)-1)):=yq _ _
     have z0:(rd (aY (nT ps) (.int 0)):DM D)=pure (nD (ga ps 0)):=dI (l:=ps) (i:=0) p0
     have mk3:∀a b c:D,cV [a,b,c]=pure (.tup [a,b,c]):=fun a b c=>cu (by simp)
     simp only[List.getElem?_cons_zero,Option.join_some,ir,au,Bo,sb,z0,xM p0,mk3]
     rfl)
    rw[←ew] at c5
    have c6:=fJ (x:=none) (rest:=[some (D.int i),some (D.int y)]) (as:=List.range R.length) (fe:=fun δ=>opt δ[1]?.join>>=fun a=>opt δ[0]?.join>>=fun b=>opt δ[2]?.join>>=fun c=>cV [a,b,c]) nD (fun j:Nat=>tV (i,((j:Nat):Int),y)) (by simp;omega) (fun j hj=>by
     have mk3:∀a b c:D,cV [a,b,c]=pure (.tup [a,b,c]):=fun a b c=>cu (by simp)
     simp only[dm,mk3]
     rfl)
    rw[c5,au,c6,au]
    have et:=wX (pss.map fun ps=>(((ps.length:Int)-1,((ga ps 0:Nat):Int),((cC ps:Nat):Int)):Int×Int×Int)) ((List.range R.length).map fun j:Nat=>(i,((j:Nat):Int),y))
    rw[List.map_map,List.map_map] at et
    exact et
   ·have hl0:∀ j,j<pss.length->dg ws j=nT (pss.getD j []):=fun j hj=>by
     rw[dg,ew,List.getD_eq_getElem?_getD,List.getElem?_map,List.getElem?_eq_getElem hj,List.getD_eq_getElem?_getD,List.getElem?_eq_getElem hj];rfl
    have gm:∀j,j<pss.length->pss.getD j []∈pss:=fun j hj=>by
     rw[List.getD_eq_getElem?_getD,List.getElem?_eq_getElem hj];exact List.getElem_mem hj
    have key:decide ((pss.map fun ps=>(((ps.length:Int) - 1,((ga ps 0:Nat):Int),((cC ps:Nat):Int)):Int×Int×Int))=(List.range R.length).map fun j:Nat=>(i,((j:Nat):Int),y))=(List.range R.length).all fun j=>decide (((pss.getD j []).length:Int)=i + 1) && (decide (ga (pss.getD j []) 0=j) && decide ((cC (pss.getD j []):Int)=y)):=by
     rw[Bool.eq_iff_iff,decide_eq_true_eq,List.all_eq_true]
     constructor
     ·intro h j hj
      have hj':=List.mem_range.mp hj
      have hjp:j<pss.length:=by omega
      have:=congrArg (fun l=>l[j]?) h
      simp only[List.getElem?_map,List.getElem?_eq_getElem hjp,Option.map_some,List.getElem?_range hj',Option.some.injEq,Prod.mk.injEq] at this
      rw[List.getD_eq_getElem?_getD,List.getElem?_eq_getElem hjp]
      simp only[Option.getD_some,Bool.and_eq_true,decide_eq_true_eq]
      exact⟨by omega,by omega,this.2.2⟩
     ·intro h
      apply List.ext_getElem?
      intro j
      by_cases hj':j<R.length
      ·have hjp:j<pss.length:=by omega
       have:=h j (List.mem_range.mpr hj')
       rw[List.getD_eq_getElem?_getD,List.getElem?_eq_getElem hjp] at this
       simp only[Option.getD_some,Bool.and_eq_true,decide_eq_true_eq] at this
       simp only[List.getElem?_map,List.getElem?_eq_getElem hjp,Option.map_some,List.getElem?_range hj',Option.some.injEq,Prod.mk.injEq]
       exact⟨by omega,by omega,this.2.2⟩
      ·rw[List.getElem?_eq_none (by simp;omega),List.getElem?_eq_none (by simp;omega)]
    rw[key]
    by_cases hi:i<0
    ·rw[law0 hi]
     refine congrArg (fun b=>(Pure.pure (D.bl b):DM D)) ?_
     symm
     rw[List.all_eq_false]
     refine⟨0,List.mem_range.mpr (by omega),?_⟩
     have p0:=(hps _ (gm 0 (by omega))).1
     have:¬ ((pss.getD 0 []).length:Int)=i+1:=by omega
     simp only[decide_eq_false this,Bool.false_and];decide
    ·rw[lawI (by omega)]
     refine congrArg (fun b=>(Pure.pure (D.bl b):DM D)) ?_
     rw[Bool.eq_iff_iff,List.all_eq_true,List.all_eq_true]
     refine forall_congr' fun j=>?_
     refine forall_congr' fun hj=>?_
     have hj':=List.mem_range.mp hj
     have hjp:j<pss.length:=by omega
     rw[hl0 j hjp,oN ((hps _ (gm j hjp)).2.2 i j y (by omega))]
 |_=>exact absurd rfl hT
theorem qK {tg:D->aa->DM aa}{fb:aa->DM Fl} (I:Nat->aa->Mo->Prop) (P:D->Mo->Prop):∀ (ds:List D) (i:Nat) (δ:aa) (M:Mo),I i δ M->(∀ j d δ M,ds[j]?=some d->I (i + j) δ M->Rn (tg d δ >>= fb) M fun r M'=>(∃ δ',r=.nx δ'∧I (i + j + 1) δ' M')∨∃ d,r=.rt d∧P d M')->Rn (forL tg fb ds δ) M fun r M'=>(∃ δ',r=.nx δ'∧I (i + ds.length) δ' M')∨∃ d,r=.rt d∧P d M'
 |[],i,δ,M,h,_=>Rn.pure (.inl ⟨δ,rfl,h⟩)
 | d::ds,i,δ,M,h,st=>by
   have s:=st 0 d δ M rfl h
   have e:forL tg fb (d::ds) δ=(tg d δ>>=fb)>>=fun r=>match r with
    |.nx δ2=>forL tg fb ds δ2
    |.ct δ2=>forL tg fb ds δ2
    |.bk δ2=>Pure.pure (.nx δ2)
    |.rt d=>Pure.pure (.rt d):=by rw[bw];rfl
   rw[e]
   refine Rn.bind s fun r M' h=>?_
   rcases h with ⟨δ',e,h'⟩ | ⟨d',e,h'⟩
   ·subst e
    have ih:=qK I P ds (i+1) δ' M' h' (fun j d δ M hj hI=>by
     have:=st (j+1) d δ M (by simpa using hj) (by rw[show i+(j+1)=i+1+j by omega];exact hI)
     rw[show i+1+j+1=i+(j+1)+1 by omega];exact this)
    rw[show i+(d::ds).length=i+1+ds.length by simp;omega]
    exact ih
   ·subst e
    exact Rn.pure (.inr ⟨_,rfl,h'⟩)
theorem oM {α:Type}{ft:aa->DM Bool}{fe:aa->DM D}{rest:aa}{n:Nat}{M:Mo}{L:List α} (p:α->Bool) (enc e:α->D) (hM:M[n]?=some (.lst (L.map enc))) (hL:L.length≤1000000) (h1:∀ a∈L,ft (some (enc a)::rest) M=some (.ok (p a),M)) (h:∀ a∈L,fe (some (enc a)::rest) M=some (.ok (e a),M)) :
  ∀(k i:Nat) (x:Option D) (l:List D),i+k=L.length+1->1≤k->l=((L.take i).filter p).map e->∃z,jN (gN 0) ft (bu fe) n k i (x::rest) l M=some (.ok (z::rest,(L.filter p).map e),M)
 |0,i,x,l,_,h1,_=>by omega
 | k + 1,i,x,l,hk,_,hl=>by
   have rn:rd (Itn.next (.dyn n) i) M=some (.ok ((L.map enc)[i]?),M):=by
    have:Itn.next (.dyn n) i M=some ((L.map enc)[i]?):=by
     simp only[Itn.next,hM]
    unfold rd
    rw[this];rfl
   by_cases c:i<L.length
   ·have e1:(L.map enc)[i]?=some (enc L[i]):=by rw [List.getElem?_map,List.getElem?_eq_getElem c];rfl
    rw[e1] at rn
    have hf:=h L[i] (List.getElem_mem c)
    have ht:=h1 L[i] (List.getElem_mem c)
    have le:l.length≤L.length:=by
     rw[hl,List.length_map]
     exact Nat.le_trans (List.length_filter_le _ _) (by rw[List.length_take];omega)
    have lt:l.length<sizeLine:=by show _<2^24;omega
    have tk:∀b,p L[i]=b->((L.take (i+1)).filter p).map e=l++(if b then [e L[i]] else []):=fun b hb=>by
     rw[List.take_succ_eq_append_getElem c,List.filter_append,List.map_append,hl]
     cases b<;>simp[hb]
    have key:∀ z,jN (gN 0) ft (bu fe) n k (i + 1) (some (enc L[i])::rest) (((L.take (i + 1)).filter p).map e) M=some (.ok (z::rest,(L.filter p).map e),M)->jN (gN 0) ft (bu fe) n (k + 1) i (x::rest) l M=some (.ok (z::rest,(L.filter p).map e),M):=by
     intro z ih
     show DM.bind (rd (Itn.next (.dyn n) i)) _ M=_
     unfold DM.bind
     rw[rn]
     show ((gN 0 (enc L[i]) (x::rest))>>=fun δ1=>ft δ1>>=fun b=>(if b then bu fe δ1 l else Pure.pure (δ1,l))>>=fun p=>jN _ _ _ n k (i+1) p.1 p.2) M=_
     rw[dJ,au]
     show DM.bind (ft (some (enc L[i])::rest)) _ M=_
     unfold DM.bind
     rw[ht]
     dsimp only
     cases hb:p L[i] with
     |true=>
       rw[tk true hb] at ih
       rw[if_pos rfl] at ih ⊢
       unfold bu
       rw[bw]
       show DM.bind (fe (some (enc L[i])::rest)) _ M=_
       unfold DM.bind
       rw[hf]
       dsimp only
       rw[if_pos lt]
       exact ih
     |false=>
       rw[tk false hb] at ih
       rw[if_neg (by decide),List.append_nil] at ih
       rw[if_neg (by decide)]
       exact ih
    obtain⟨z,ih⟩:=oM p enc e hM hL h1 h k (i+1) (some (enc L[i])) _ (by omega) (by omega) rfl
    exact⟨z,key z ih⟩
   ·have e1:(L.map enc)[i]?=none:=List.getElem?_eq_none (by rw[List.length_map];omega)
    rw[e1] at rn
    refine⟨x,?_⟩
    show DM.bind (rd (Itn.next (.dyn n) i)) _ M=_
    unfold DM.bind
    rw[rn]
    have:L.take i=L:=List.take_of_length_le (by omega)
    rw[hl,this];rfl
theorem wW{α:Type}{ft:aa->DM Bool}{fe:aa->DM D}{rest:aa}{n:Nat}{M:Mo}{L:List α}{x:Option D}(p:α->Bool)(enc e:α->D)(hM:M[n]?=some (.lst (L.map enc)))(hL:L.length≤1000000)(h1:∀a∈L,ft (some (enc a)::rest) M=some (.ok (p a),M))(h:∀a∈L,fe (some (enc a)::rest) M=some (.ok (e a),M)){β:Type}{k:aa×List D->DM β}{Q:β->Mo->Prop}(k':List D->DM β)(hk:∀q,k q=k' q.2)(q:Rn (k' ((L.filter p).map e)) M Q) :
  Rn (rd (kI (.ref n))>>=fun it=>dj (cM (gN 0) ft (bu fe) it (x::rest) [])>>=k) M Q:=by
 refine Rn.bindRd (.dyn n) (by simp only[kI,hM]) ?_
 obtain⟨z,e2⟩:=oM (rest:=rest) p enc e hM hL h1 h (L.length+1) 0 x [] (by omega) (by omega) rfl
 have e1:cM (gN 0) ft (bu fe) (.dyn n) (x::rest) [] M=some (.ok (z::rest,(L.filter p).map e),M):=by
  show DM.bind (rd (fun M=>aV (.ref n) M)) _ M=_
  unfold DM.bind rd
  simp only[aV,hM,Option.map_some,List.length_map]
  exact e2
 refine Rn.bind (jn ⟨_,_,e1,rfl,rfl⟩:Rn (dj _) M fun p M'=>p=(z::rest,_)∧M'=M) fun p M' ⟨e1,e2⟩=>?_
 subst e1 e2
 rw[hk]
 exact q
noncomputable def BL(M0:Mo)(rest:aa)(p:Nat->Bool)(i:Nat)(δ:aa)(l:List D)(M:Mo):Prop:=(∃z,δ=z::rest)∧l=((List.range i).filter p).map nD∧M=M0
theorem oF {ft:aa->DM Bool}{fe:aa->DM D}{rest:aa}{n:Nat}{p:Nat->Bool}{M:Mo}{x:Option D} (hn:n≤1000) (h:∀ j,j<n->Rn (ft (some (nD j)::rest)) M fun b M'=>b=p j∧M'=M) (h2:∀ j,j<n->fe (some (nD j)::rest)=pure (nD j)) :
  Rn (bx (gN 0) ft (bu fe) ((List.range n).map nD) (x::rest) []) M fun q M'=>M'=M∧q.2=((List.range n).filter p).map nD:=by
 refine (fU (BL M rest p) ((List.range n).map nD) 0 (x::rest) [] M ⟨⟨x,rfl⟩,rfl,rfl⟩ (fun j d δ l M1 hj hI=>?_)).mono fun q M' hI=>?_
 ·obtain ⟨⟨z,rfl⟩,rfl,rfl⟩:=hI
  obtain⟨hj',rfl⟩:=jV hj
  have le:=List.length_filter_le p (List.range j)
  rw[List.length_range] at le
  have lt:(((List.range (0+j)).filter p).map nD).length<sizeLine:=by
   show _<2^24
   rw[List.length_map,Nat.zero_add]
   omega
  rw[dJ,au]
  refine Rn.bind (h j hj') fun b M' ⟨e1,e2⟩=>?_
  subst e1 e2
  rw[Nat.zero_add] at lt ⊢
  cases hp:p j with
  |true=>
    rw[if_pos rfl]
    unfold bu
    show Rn (fe (some (nD j)::rest)>>=_) _ _
    rw[h2 j hj',au,if_pos lt]
    exact Rn.pure ⟨⟨_,rfl⟩,by simp[List.range_succ,List.filter_append,hp],rfl⟩
  |false=>
    rw[if_neg (by decide)]
    exact Rn.pure ⟨⟨_,rfl⟩,by simp[List.range_succ,List.filter_append,hp],rfl⟩
 ·obtain⟨_,e1,e2⟩:=hI
  exact⟨e2,by rw[e1];simp⟩
theorem qJ {tg:D->aa->DM aa}{fb:aa->DM Fl}{n:Nat}{L:List D} (I:Nat->aa->Mo->Prop) (hL:∀ j δ M,I j δ M->M[n]?=some (.lst L)) (h:∀ j d δ M,L[j]?=some d->I j δ M->Rn (tg d δ >>= fb) M fun r M'=>∃ δ',r=.nx δ'∧I (j + 1) δ' M') :
  ∀(k i:Nat) (δ:aa) (M:Mo),i≤L.length->L.length<i+k->I i δ M->Rn (iW tg fb n k i δ) M fun r M'=>∃δ',r=.nx δ'∧I L.length δ' M'
 |0,i,δ,M,_,h2,_=>by omega
 | k + 1,i,δ,M,h1,h2,hI=>by
   have hM:=hL i δ M hI
   have e:iW tg fb n (k + 1) i δ=rd (Itn.next (.dyn n) i) >>= fun o=>match o with
    |none=>pure (.nx δ)
    |some d=>(tg d δ>>=fb)>>=fun r=>match r with
      |.nx δ2=>iW tg fb n k (i+1) δ2
      |.ct δ2=>iW tg fb n k (i+1) δ2
      |.bk δ2=>pure (.nx δ2)
      |.rt d=>pure (.rt d):=by
    show (rd (Itn.next (.dyn n) i)>>=_)=_
    congr 1
    funext o
    cases o with
    |none=>rfl
    |some d=>exact (bw _ _ _).symm
   rw[e]
   by_cases c:i<L.length
   ·refine Rn.bindRd (some L[i]) (by simp only[Itn.next,hM,List.getElem?_eq_getElem c]) ?_
    refine Rn.bind (h i L[i] δ M (List.getElem?_eq_getElem c) hI) fun r M' ⟨δ',er,hI'⟩=>?_
    subst er
    exact qJ I hL h k (i+1) δ' M' (by omega) (by omega) hI'
   ·refine Rn.bindRd none (by simp only[Itn.next,hM,List.getElem?_eq_none (Nat.le_of_not_lt c)]) ?_
    have:i=L.length:=by omega
    subst this
    exact Rn.pure ⟨δ,rfl,hI⟩
noncomputable def lD(l:List Nat):D:=.lst (l.map nD)
theorem wg(i:Nat)(l:List Nat):(rd (xq (nD i) (lD l)):DM D)=pure (.bl (!l.contains i)):=bR fun M=>by
 show ((intsOf (l.map nD))).map _=_
 rw[iM,Option.map_some,wZ]
theorem yH{α:Type}(xs:List α):(rd (bW (.lst (xs.map fun _=>.int 1)) (.lst [])):DM D)=pure (.bl xs.isEmpty):=by
 have:=vU (List.replicate xs.length 1) []
 rw[List.map_replicate] at this
 rw[List.map_const',show (D.int 1)=nD 1 from rfl]
 refine this.trans ?_
 congr 2
 cases xs<;>simp
theorem pA(xs:List Nat):(rd (cR (lD xs) (.lst [])):DM D)=pure (.bl (!xs.isEmpty)):=by
 have:=vZ xs []
 refine this.trans ?_
 congr 2
 cases xs<;>simp
noncomputable def can(R:List (List Nat))(l:List Nat)(y:Nat):Bool:=!(l.filter fun x=>decide (0<ga (gr R x) y)).isEmpty
noncomputable def nxt(R:List (List Nat))(l:List Nat):List Nat:=(List.range R.length).filter (can R l)
noncomputable def eF(R:List (List Nat)):Nat->Nat->List Nat
 |0,x=>[x]
 |k+1,x=>nxt R (eF R k x)
theorem Az{R:List (List Nat)}{l:List Nat}{y:Nat}(h:y∈nxt R l):y<R.length:=List.mem_range.mp (List.mem_filter.mp h).1
theorem yS(R:List (List Nat))(l:List Nat):(nxt R l).length≤R.length:=Nat.le_trans (List.length_filter_le _ _) (by simp)
theorem vJ{R:List (List Nat)}{x:Nat}(hx:x<R.length):∀{k y:Nat},y∈eF R k x->y<R.length
 |0,y,h=>by rw[List.mem_singleton.mp h];exact hx
 |k+1,y,h=>Az h
theorem yL{R:List (List Nat)}{x:Nat}(hx:1≤R.length):∀k:Nat,(eF R k x).length≤R.length
 |0=>hx
 |k+1=>yS R _
theorem xr{R:List (List Nat)}{W:Nat}{l:List Nat}(wk:WK R W)(hl:∀x∈l,x<R.length)(hn:l.length≤1000){z:Option D}(y:Nat)(hy:y<R.length):(dj (bx (gN 0) (fun δ=>opt δ[1]?.join>>=fun a=>opt δ[0]?.join>>=fun b=>rd (aY a b)>>=fun a=>opt δ[2]?.join>>=fun b=>rd (aY a b)>>=fun a=>rd (gB a (.int 0))>>=cU) (bu (iY 0)) (l.map nD) [none,some (nM R),some (nD y)] [])>>=fun p=>cN []>>=fun b=>rd (cR (.lst p.2) b)>>=cU)=pure (can R l y):=by
 have c:=bc (x:=none) (rest:=[some (nM R),some (nD y)]) (as:=l) (ft:=fun δ=>opt δ[1]?.join>>=fun a=>opt δ[0]?.join>>=fun b=>rd (aY a b)>>=fun a=>opt δ[2]?.join>>=fun b=>rd (aY a b)>>=fun a=>rd (gB a (.int 0))>>=cU) (fe:=iY 0) nD (fun x=>decide (0<ga (gr R x) y)) nD (by omega) (fun x hx=>by
  have g:∀a:Nat,(rd (gB (nD a) (.int 0)):DM D)=pure (.bl (decide (0<a))):=fun a=>jG a 0
  simp only[dm]
  simp only[jT (hl x hx),au,dI (l:=gr R x) (i:=y) (by rw[wk.row _ (gr_mem (hl x hx))];exact hy),g,dB]) (fun _ _ _=>by simp)
 have m0:cN []=pure (.lst []):=b8 (by simp)
 have:=pA (l.filter fun x=>decide (0<ga (gr R x) y))
 unfold lD at this
 rw[c,au,m0,au,this,au,dB];rfl
noncomputable def shr(R:List (List Nat))(k y:Nat):Bool:=((List.range R.length).filter fun x=>!(eF R k x).contains y).isEmpty
noncomputable def uQ:=aP 1 7 lC
noncomputable def lands(R:List (List Nat))(k:Nat):List D:=(List.range R.length).map fun x=>lD (eF R k x)
noncomputable def Eo(R:List (List Nat))(M0:Mo)(i:Nat)(δ:aa)(M:Mo):Prop:=∃q z3 z4 z5 z6,δ=[some (nM R),some (.ref q),some (nD R.length),z3,z4,z5,z6]∧M[q]?=some (.lst (lands R i))∧Sb M0.length M0 M∧M0.length≤q
noncomputable def Er(R:List (List Nat))(M0:Mo)(k q q2:Nat)(pre:aa)(j:Nat)(δ:aa)(M:Mo):Prop:=(∃z6,δ=pre++[z6])∧M[q]?=some (.lst (lands R k))∧M[q2]?=some (.lst ((List.range j).map fun x=>lD (eF R (k+1) x)))∧Sb M0.length M0 M
noncomputable def Dc(R:List (List Nat))(M0:Mo)(d:D)(M:Mo):Prop:=(d=.non∨∃s y:Nat,d=.tup [nD s,nD y]∧s≤17∧y<R.length∧∀x,x<R.length->y∈eF R s x)∧Sb M0.length M0 M
theorem zX {R:List (List Nat)}{W:Nat} (wk:WK R W) (h5:R.length≤5) (M:Mo):Rn (uQ [nM R]) M (Dc R M):=by
 have n1:=wk.n1
 unfold uQ lC ie;dsimp only
 refine Rn.call rfl ?_
 have st:cD 7 [nM R]=[some (nM R),none,none,none,none,none,none]:=rfl
 rw[st]
 refine aG fun K hK=>?_
 have c0:=fJ (x:=none) (rest:=[]) (as:=List.range R.length) (fe:=fun δ=>opt δ[0]?.join>>=fun a=>cN [a]) nD (fun x=>lD (eF R 0 x)) (by simp;omega) (fun x hx=>by
  have:cN [nD x]=pure (.lst [nD x]):=b8 (by simp)
  simp only[List.getElem?_cons_zero,Option.join_some,ir,au,this];rfl)
 simp[cO,bJ (n:=R.length) (by omega),aQ,bz]
 rw[c0,au]
 refine Rn.run (a:=.ref M.length) (M':=M++[.lst (lands R 0)]) rfl ?_
 have mk2:cV [.ref M.length,nD R.length]=pure (.tup [.ref M.length,nD R.length]):=cu (by simp)
 simp[mk2]
 rw[hK];clear hK K c0
 have sb0:Sb M.length M (M++[.lst (lands R 0)]):=Sb.push
 have at0:(M++[DO.lst (lands R 0)])[M.length]?=some (.lst (lands R 0)):=by simp
 generalize M++[DO.lst (lands R 0)]=M1 at sb0 at0
 refine dq fun K hK hR'=>?_
 have s1:(rd (jk (nD R.length) (.int 1)):DM D)=pure (nD (R.length-1)):=oY (b:=1) n1
 have m1:(rd (ph (nD (R.length-1)) (nD (R.length-1))):DM D)=pure (nD ((R.length-1)*(R.length-1))):=rE (by omega)
 have a2:(rd (bY (nD ((R.length-1)*(R.length-1))) (.int 2)):DM D)=pure (nD ((R.length-1)*(R.length-1)+2)):=ig _ 2
 have b20:(R.length-1)*(R.length-1)+2≤18:=by
  have:=Nat.mul_le_mul (show R.length-1≤4 by omega) (show R.length-1≤4 by omega)
  omega
 generalize (R.length-1)*(R.length-1)+2=top at a2 b20
 simp[s1,m1,a2,bJ (n:=top) (by omega),fF]
 refine Rn.bind (qK (Eo R M) (Dc R M) _ 0 _ _ ⟨_,_,_,_,_,rfl,at0,sb0,Nat.le_refl _⟩ (fun k d δ M5 hx hI=>?_)) (fun r M5 hI=>?_)
 rotate_left
 ·rcases hI with ⟨δ',rfl,q,z3,z4,z5,z6,rfl,_,sb,_⟩ | ⟨d,rfl,hP⟩
  ·rw[hK];clear hK hR' K
   simp
   exact Rn.pure ⟨_,rfl,.inl rfl,sb⟩
  ·obtain⟨hR,hP⟩:=hP
   rw[hR']
   exact Rn.pure ⟨_,rfl,hR,hP⟩
 clear hK hR' K
 obtain⟨q,z3,z4,z5,z6,rfl,atq,sb5,hq⟩:=hI
 obtain⟨hk,rfl⟩:=jV hx
 rw[Nat.zero_add] at atq ⊢
 rw[dJ,au]
 refine dq fun K hK hR=>?_
 simp[bJ (n:=R.length) (by omega),aQ,bz]
 have m0:cN []=pure (.lst []):=b8 (by simp)
 refine Rn.bind (jn (oF (n:=R.length) (p:=shr R k) (M:=M5) (x:=none) (rest:=[some (.ref q)]) (by omega) (fun y hy=>?_) (fun y hy=>by simp))) fun pr M6 ⟨e1,e2⟩=>?_
 ·simp only[dm,Option.getD_some]
  refine wW (L:=List.range R.length) (fun x=>!(eF R k x).contains y) (fun x=>lD (eF R k x)) (fun _=>.int 1) atq (by simp;omega) (fun x hx=>?_) (fun x hx=>rfl) (fun l=>cN []>>=fun a_1=>rd (bW (D.lst l) a_1)>>=cU) (fun _=>rfl) ?_
  ·simp only[dm,wg,dB];rfl
  ·rw[m0,au,yH,au,dB]
   exact Rn.pure ⟨rfl,rfl⟩
 subst e1
 rw[e2,hK];clear hK hR K e2
 refine dq fun K hK hR=>?_
 have nes:=pA ((List.range R.length).filter (shr R k))
 unfold lD at nes
 simp only[gZ,dm,bw,m0,nes,dB,uD]
 by_cases hz:((List.range R.length).filter (shr R k)).isEmpty=false
 ·rw[hz]
  simp
  have l0:0<((List.range R.length).filter (shr R k)).length:=by
   cases h:(List.range R.length).filter (shr R k) with
   |nil=>rw[h] at hz;cases hz
   |cons a l=>simp
  have hm:=dF l0
  rw[show rd (aY (.lst (((List.range R.length).filter (shr R k)).map nD)) (.int 0))=(pure (nD (ga ((List.range R.length).filter (shr R k)) 0)):DM D) from lV (i:=0) l0,au]
  generalize ga ((List.range R.length).filter (shr R k)) 0=y at hm
  have mk:cV [nD k,nD y]=pure (.tup [nD k,nD y]):=cu (by simp)
  rw[mk,au,hR]
  rw[List.mem_filter] at hm
  refine Rn.pure (.inr ⟨_,rfl,.inr ⟨k,y,rfl,by omega,List.mem_range.mp hm.1,fun x hx=>?_⟩,sb5⟩)
  have h:=hm.2
  unfold shr at h
  rw[List.isEmpty_iff] at h
  by_cases hc:(eF R k x).contains y=true
  ·simpa using hc
  ·have:x∈(List.range R.length).filter fun x=>!(eF R k x).contains y:=List.mem_filter.mpr ⟨List.mem_range.mpr hx,by simpa using hc⟩
   rw[h] at this;cases this
 ·rw [Bool.not_eq_false] at hz
  rw[hz]
  simp
  rw[hK];clear hK hR K
  refine aG fun K hK=>?_
  simp
  refine Rn.dX (by simp) ?_
  rw[hK];clear hK K
  have ql:q<M6.length:=(List.getElem?_eq_some_iff.mp atq).1
  have atq2:(M6++[DO.lst []])[q]?=some (.lst (lands R k)):=by rw[List.getElem?_append_left ql];exact atq
  have at2:(M6++[DO.lst []])[M6.length]?=some (.lst []):=by simp
  have sb6:Sb M.length M (M6++[DO.lst []]):=sb5.trans Sb.push
  have q2:M.length≤M6.length:=sb5.le
  have ne2:M6.length≠q:=by omega
  revert atq2 at2 sb6 q2 ne2
  generalize M6.length=p2
  generalize M6++[DO.lst []]=M7
  intro atq2 at2 sb6 q2 ne2
  refine aG fun K hK=>?_
  simp
  refine Rn.bindRd (.dyn q) (by simp only[kI,atq2]) ?_
  show Rn (iW _ _ q 20 0 _>>=K) M7 _
  refine Rn.bind (qJ (L:=lands R k) (Er R M k q p2 [some (nM R),some (.ref q),some (nD R.length),some (nD k),some (.lst (((List.range R.length).filter (shr R k)).map nD)),some (.ref p2)]) (fun j δ M h=>h.2.1) (fun j d δ M8 hj hI=>?_) 20 0 _ _ (Nat.zero_le _) (by unfold lands;simp;omega) ⟨⟨_,rfl⟩,atq2,at2,sb6⟩) fun r M8 hI=>?_
  ·clear hK K
   obtain⟨⟨z,rfl⟩,a1,a2,s8⟩:=hI
   unfold lands at hj
   rw[List.getElem?_map] at hj
   obtain⟨x,hx2,rfl⟩:=Option.map_eq_some_iff.mp hj
   obtain⟨jl,rfl⟩:=List.getElem?_eq_some_iff.mp hx2
   rw[List.getElem_range]
   have jl:j<R.length:=by simpa using jl
   rw[dJ,au]
   simp[bJ (n:=R.length) (by omega),aQ,bz]
   have lx:∀x∈eF R k j,x<R.length:=fun x hx=>vJ jl hx
   have ln:=yL (R:=R) (x:=j) n1 k
   have cg:=bc (x:=none) (rest:=[some (lD (eF R k j)),some (nM R)]) (as:=List.range R.length) (ft:=fun δ=>opt δ[1]?.join>>=fun a=>rd (kI a)>>=fun a=>dj (cM (gN 0) (fun δ=>opt δ[1]?.join>>=fun a=>opt δ[0]?.join>>=fun a_1=>rd (aY a a_1)>>=fun a=>opt δ[2]?.join>>=fun a_2=>rd (aY a a_2)>>=fun a=>rd (gB a (D.int 0))>>=cU) (bu (iY 0)) a [none,δ[2]?.getD none,δ[0]?.getD none] [])>>=fun a=>cN []>>=fun a_1=>rd (cR (D.lst a.snd) a_1)>>=cU) (fe:=iY 0) nD (can R (eF R k j)) nD (by simp;omega) (fun y hy=>by
    have al:(rd (kI (lD (eF R k j))):DM Itn)=pure (.fix ((eF R k j).map nD)):=rfl
    simp only[dm,Option.getD_some,al,lA]
    exact xr wk lx (by omega) (z:=none) y (List.mem_range.mp hy)) (fun _ _ _=>by simp)
   refine Rn.bindRd ((List.range j).map fun x=>lD (eF R (k+1) x)) (by simp only[aV,a2]) ?_
   rw[cg,au]
   refine Rn.run (mC a2 (by simp;omega)) ?_
   refine Rn.pure ⟨_,rfl,⟨_,rfl⟩,?_,?_,Sb.new (p:=M.length) (.inr s8.le) q2 Sb.set s8⟩
   ·rw[List.getElem?_set_ne ne2];exact a1
   ·rw[List.getElem?_set_self (List.getElem?_eq_some_iff.mp a2).1,List.range_succ,List.map_append];rfl
  ·obtain⟨δ',rfl,⟨z,rfl⟩,a1,a2,s8⟩:=hI
   rw[hK];clear hK K
   simp
   refine Rn.pure (.inl ⟨_,rfl,p2,_,_,_,_,rfl,?_,s8,q2⟩)
   rw[a2]
   unfold lands
   rw[List.length_map,List.length_range]
noncomputable def um(R:List (List Nat))(l:List Nat)(x:Nat):Bool:=!(l.filter fun y=>decide (0<ga (gr R x) y)).isEmpty
noncomputable def xZ(R:List (List Nat))(l:List Nat):List Nat:=(List.range R.length).filter (um R l)
noncomputable def cG(R:List (List Nat))(y:Nat):Nat->List Nat
 |0=>[y]
 |k+1=>xZ R (cG R y k)
theorem yM {R:List (List Nat)}{l:List Nat}{y:Nat} (h:y∈nxt R l):∃ z,z∈l∧0<ga (gr R z) y:=by
 have h:=(List.mem_filter.mp h).2
 unfold can at h
 cases e:l.filter fun x=>decide (0<ga (gr R x) y) with
 |nil=>rw[e] at h;cases h
 |cons a t=>
   have:a∈l.filter fun x=>decide (0<ga (gr R x) y):=by rw[e];exact .head _
   rw[List.mem_filter] at this
   exact⟨a,this.1,by simpa using this.2⟩
theorem jA {R:List (List Nat)}{l:List Nat}{x:Nat}:x∈xZ R l ↔ x<R.length∧∃ z,z∈l∧0<ga (gr R x) z:=by
 unfold xZ
 rw[List.mem_filter,List.mem_range]
 refine and_congr Iff.rfl ?_
 unfold um
 constructor
 ·intro h
  cases e:l.filter fun y=>decide (0<ga (gr R x) y) with
  |nil=>rw[e] at h;cases h
  |cons a t=>
    have:a∈l.filter fun y=>decide (0<ga (gr R x) y):=by rw[e];exact .head _
    rw[List.mem_filter] at this
    exact⟨a,this.1,by simpa using this.2⟩
 ·rintro⟨z,hz,h0⟩
  have:z∈l.filter fun y=>decide (0<ga (gr R x) y):=List.mem_filter.mpr ⟨hz,by simpa using h0⟩
  cases e:l.filter fun y=>decide (0<ga (gr R x) y) with
  |nil=>rw[e] at this;cases this
  |cons a t=>rfl
theorem qO {R:List (List Nat)}{z y:Nat} (hz:z<R.length) (h:0<ga (gr R z) y):∀ {s x:Nat},x∈cG R z s->x∈cG R y (s + 1)
 |0,x,hx=>by
   rw[List.mem_singleton.mp hx]
   exact jA.mpr ⟨hz,y,by simp[cG],h⟩
 |s+1,x,hx=>by
   obtain⟨hl,w,hw,h0⟩:=jA.mp hx
   exact jA.mpr ⟨hl,w,qO hz h hw,h0⟩
theorem oK {R:List (List Nat)}{x:Nat} (hx:x<R.length):∀ {s y:Nat},y∈eF R s x->x∈cG R y s
 |0,y,h=>by rw[List.mem_singleton.mp h];simp[cG]
 |s+1,y,h=>by
   obtain⟨z,hz,h0⟩:=yM h
   exact qO (vJ hx hz) h0 (oK hx hz)
theorem vI{R:List (List Nat)}{y:Nat}(hy:y<R.length):∀{k x:Nat},x∈cG R y k->x<R.length
 |0,x,h=>by rw[List.mem_singleton.mp h];exact hy
 |k+1,x,h=>(jA.mp h).1
theorem sO{R:List (List Nat)}{y:Nat}(hx:1≤R.length):∀k:Nat,(cG R y k).length≤R.length
 |0=>hx
 |k+1=>Nat.le_trans (List.length_filter_le _ _) (by simp)
theorem sJ{n:Nat}{M:Mo}{l:List D}(h:M[n]?=some (.lst l))(h0:0<l.length):aY (.ref n) (.int (-1)) M=some (l[l.length-1]'(by omega)):=by
 show (aV (.ref n) M).bind _=_
 simp only[aV,h,Option.bind_some]
 unfold atI
 have e:ixN l.length (-1)=some (l.length-1):=by
  unfold ixN
  rw[if_neg (by omega),if_pos (by omega)]
  congr 1
  omega
 rw[e]
 exact List.getElem?_eq_getElem (by omega)
noncomputable def BP(M0:Mo)(rest:aa)(p:Nat->Bool)(L:List Nat)(i:Nat)(δ:aa)(l:List D)(M:Mo):Prop:=(∃z,δ=z::rest)∧l=((L.take i).filter p).map nD∧M=M0
theorem uq {ft:aa->DM Bool}{fe:aa->DM D}{rest:aa}{L:List Nat}{p:Nat->Bool}{M:Mo}{x:Option D} (hn:L.length≤1000) (h:∀ y∈L,Rn (ft (some (nD y)::rest)) M fun b M'=>b=p y∧M'=M) (h2:∀ y∈L,fe (some (nD y)::rest)=pure (nD y)) :
  Rn (bx (gN 0) ft (bu fe) (L.map nD) (x::rest) []) M fun q M'=>M'=M∧q.2=(L.filter p).map nD:=by
 refine (fU (BP M rest p L) (L.map nD) 0 (x::rest) [] M ⟨⟨x,rfl⟩,by simp,rfl⟩ (fun j d δ l M1 hj hI=>?_)).mono fun q M' hI=>?_
 ·obtain ⟨⟨z,rfl⟩,rfl,rfl⟩:=hI
  rw[List.getElem?_map] at hj
  obtain⟨y,hy,rfl⟩:=Option.map_eq_some_iff.mp hj
  obtain⟨hj',rfl⟩:=List.getElem?_eq_some_iff.mp hy
  have le:=List.length_filter_le p (L.take (0+j))
  rw[List.length_take] at le
  have lt:(((L.take (0+j)).filter p).map nD).length<sizeLine:=by
   show _<2^24
   rw[List.length_map]
   omega
  have tk:L.take (j+1)=L.take j++[L[j]]:=List.take_succ_eq_append_getElem hj'
  have hm:=List.getElem_mem hj'
  rw[dJ,au]
  refine Rn.bind (h _ hm) fun b M' ⟨e1,e2⟩=>?_
  subst e1 e2
  rw[Nat.zero_add] at lt ⊢
  cases hp:p L[j] with
  |true=>
    rw[if_pos rfl]
    unfold bu
    show Rn (fe (some (nD L[j])::rest)>>=_) _ _
    rw[h2 _ hm,au,if_pos lt]
    exact Rn.pure ⟨⟨_,rfl⟩,by rw[tk,List.filter_append,List.map_append];simp[hp],rfl⟩
  |false=>
    rw[if_neg (by decide)]
    exact Rn.pure ⟨⟨_,rfl⟩,by rw[tk,List.filter_append,List.map_append];simp[hp],rfl⟩
 ·obtain⟨_,e1,e2⟩:=hI
  exact⟨e2,by rw[e1];simp⟩
theorem xJ{R:List (List Nat)}{W:Nat}{l:List Nat}(wk:WK R W)(hl:∀x∈l,x<R.length)(hn:l.length≤1000)(x:Nat)(hx:x<R.length):(dj (bx (gN 0) (fun δ=>opt δ[1]?.join>>=fun a=>opt δ[2]?.join>>=fun b=>rd (aY a b)>>=fun a=>opt δ[0]?.join>>=fun b=>rd (aY a b)>>=fun a=>rd (gB a (.int 0))>>=cU) (bu (iY 0)) (l.map nD) [none,some (nM R),some (nD x)] [])>>=fun p=>cN []>>=fun b=>rd (cR (.lst p.2) b)>>=cU)=pure (um R l x):=by
 have c:=bc (x:=none) (rest:=[some (nM R),some (nD x)]) (as:=l) (ft:=fun δ=>opt δ[1]?.join>>=fun a=>opt δ[2]?.join>>=fun b=>rd (aY a b)>>=fun a=>opt δ[0]?.join>>=fun b=>rd (aY a b)>>=fun a=>rd (gB a (.int 0))>>=cU) (fe:=iY 0) nD (fun y=>decide (0<ga (gr R x) y)) nD (by omega) (fun y hy=>by
  have g:∀a:Nat,(rd (gB (nD a) (.int 0)):DM D)=pure (.bl (decide (0<a))):=fun a=>jG a 0
  simp only[dm]
  simp only[jT hx,au,dI (l:=gr R x) (i:=y) (by rw[wk.row _ (gr_mem hx)];exact hl y hy),g,dB]) (fun _ _ _=>by simp)
 have m0:cN []=pure (.lst []):=b8 (by simp)
 have:=pA (l.filter fun y=>decide (0<ga (gr R x) y))
 unfold lD at this
 rw[c,au,m0,au,this,au,dB];rfl
theorem yJ(fs:List Nat)(z:Nat):cC (fs++[z])=z:=by
 unfold cC
 rw[List.length_append,List.length_singleton,Nat.add_sub_cancel,mH (by simp)]
 simp
noncomputable def uU:=aP 5 9 (ou gP)
noncomputable def kW(R:List (List Nat))(y k:Nat):List D:=(List.range k).map fun i=>lD (cG R y i)
noncomputable def Ew(R:List (List Nat))(M0:Mo)(p y q:Nat)(pre:aa)(i:Nat)(δ:aa)(M:Mo):Prop:=(∃z6 z7 z8,δ=pre++[z6,z7,z8])∧M[q]?=some (.lst (kW R y (i+1)))∧bV p M∧Sb p M0 M
noncomputable def Ex(R:List (List Nat))(M0:Mo)(p y s q q2:Nat)(pre:aa)(i:Nat)(δ:aa)(M:Mo):Prop:=(∃z6 z8,δ=pre++[z6,some (.ref q2),z8])∧M[q]?=some (.lst (kW R y (s+1)))∧(∃fs:List Nat,M[q2]?=some (.lst (fs.map nD))∧fs.length=i+1∧(∀x∈fs,x<R.length)∧cC fs∈cG R y (s-i))∧bV p M∧Sb p M0 M
theorem Bw {R:List (List Nat)}{W p s x y:Nat}{M:Mo} (wk:WK R W) (hp:bV p M) (hx:x<R.length) (hy:y<R.length) (hs:s≤20) (hm:x∈cG R y s):Rn (uU [.ref p,nM R,nD x,nD y,nD s]) M fun d M'=>(∃ fs:List Nat,d=nT fs∧fs.length=s + 1∧∀ x∈fs,x<R.length)∧bV p M'∧Sb p M M':=by
 have n1:=wk.n1
 have n25:=wk.n25
 have hpl:=hp.lt
 unfold uU ou jR;dsimp only
 refine Rn.call rfl ?_
 have st:cD 9 [.ref p,nM R,nD x,nD y,nD s]=[some (.ref p),some (nM R),some (nD x),some (nD y),some (nD s),none,none,none,none]:=rfl
 rw[st]
 refine aG fun K hK=>?_
 have ml:cN [nD y]=pure (.lst [nD y]):=b8 (by simp)
 simp[ml]
 refine Rn.dX (by simp) ?_
 rw[hK];clear hK K
 have pq:p≠M.length:=by omega
 have hp0:=hp.sb (q:=M.length) (Sb.push (o:=.lst [.lst [nD y]])) pq
 have sb0:Sb p M (M++[.lst [.lst [nD y]]]):=Sb.push
 have at0:(M++[DO.lst [.lst [nD y]]])[M.length]?=some (.lst (kW R y 1)):=by simp[kW,cG,lD]
 have ql:M.length≤M.length:=Nat.le_refl _
 revert pq hp0 sb0 at0 ql
 generalize hq:M.length=q
 generalize M++[DO.lst [.lst [nD y]]]=M1
 intro pq hp0 sb0 at0 ql
 refine aG fun K hK=>?_
 simp[bJ (n:=s) (by omega),fF]
 refine Rn.bind (cB (Ew R M p y q [some (.ref p),some (nM R),some (nD x),some (nD y),some (nD s),some (.ref q)]) _ 0 _ _ ⟨⟨_,_,_,rfl⟩,at0,hp0,sb0⟩ (fun i d δ M5 hx hI=>?_)) (fun r M5 hI=>?_)
 ·obtain⟨⟨z6,z7,z8,rfl⟩,a5,hp5,sb5⟩:=hI
  clear hK K
  rw[Nat.zero_add] at a5 ⊢
  rw[dJ,au]
  simp[cO,bJ (n:=R.length) (by omega),aQ,bz]
  refine Rn.bindRd (kW R y (i+1)) (by simp only[aV,a5]) ?_
  have ll:(kW R y (i+1)).length=i+1:=by simp[kW]
  have lst1:aY (.ref q) (.int (-1)) M5=some (lD (cG R y i)):=by
   rw[sJ a5 (by omega)]
   simp[kW]
  have lx:∀z∈cG R y i,z<R.length:=fun z hz=>vI hy hz
  have ln:=sO (R:=R) (y:=y) n1 i
  refine Rn.bind (jn (oF (n:=R.length) (p:=um R (cG R y i)) (M:=M5) (x:=none) (rest:=[some (.ref q),some (nM R)]) (by omega) (fun z hz=>?_) (fun z hz=>by simp))) fun pr M6 ⟨e1,e2⟩=>?_
  ·simp only[dm,Option.getD_some]
   refine Rn.bindRd _ lst1 ?_
   have al:(rd (kI (lD (cG R y i))):DM Itn)=pure (.fix ((cG R y i).map nD)):=rfl
   rw[al,au]
   simp only[lA]
   rw[xJ wk lx (by omega) z hz]
   exact Rn.pure ⟨rfl,rfl⟩
  subst e1
  rw[e2]
  have i20:i<s:=by have:=(List.getElem?_eq_some_iff.mp hx).1;simpa using this
  refine Rn.run (mC a5 (by omega)) ?_
  refine Rn.pure ⟨_,rfl,⟨_,_,_,rfl⟩,?_,hp5.sb (q:=q) Sb.set pq,Sb.new (p:=p) (.inr sb5.le) (by omega) Sb.set sb5⟩
  rw[List.getElem?_set_self (List.getElem?_eq_some_iff.mp a5).1]
  unfold kW
  rw[List.range_succ (n:=i+1),List.map_append];rfl
 ·obtain ⟨δ',rfl,⟨z6,z7,z8,rfl⟩,a5,hp5,sb5⟩:=hI
  rw[List.length_map,List.length_range,Nat.zero_add] at a5
  rw[hK];clear hK K
  refine aG fun K hK=>?_
  have ixs:aY (.ref q) (nD s) M5=some (lD (cG R y s)):=jz (i:=s) a5 (by simp[kW])
  have ct:(cG R y s).contains x=true:=by simpa using hm
  simp
  refine Rn.bindRd _ ixs ?_
  rw[wg,ct]
  simp
  rw[hK];clear hK K
  refine aG fun K hK=>?_
  simp
  refine Rn.dX (by simp) ?_
  rw[hK];clear hK K
  have q5:q<M5.length:=(List.getElem?_eq_some_iff.mp a5).1
  have p5:=hp5.lt
  have pq2:p≠M5.length:=by omega
  have hp6:=hp5.sb (q:=M5.length) (Sb.push (o:=.lst [nD x])) pq2
  have sb6:Sb p M (M5++[.lst [nD x]]):=sb5.trans Sb.push
  have at6:(M5++[DO.lst [nD x]])[M5.length]?=some (.lst ([x].map nD)):=by simp
  have a6:(M5++[DO.lst [nD x]])[q]?=some (.lst (kW R y (s+1))):=by rw[List.getElem?_append_left q5];exact a5
  have ne:M5.length≠q:=by omega
  have q2l:M.length≤M5.length:=sb5.le
  revert pq2 hp6 sb6 at6 a6 ne q2l
  generalize M5.length=q2
  generalize M5++[DO.lst [nD x]]=M6
  intro pq2 hp6 sb6 at6 a6 ne q2l
  refine aG fun K hK=>?_
  simp[bJ (n:=s) (by omega),fF]
  refine Rn.bind (cB (Ex R M p y s q q2 [some (.ref p),some (nM R),some (nD x),some (nD y),some (nD s),some (.ref q)]) _ 0 _ _ ⟨⟨_,_,rfl⟩,a6,⟨[x],at6,rfl,fun z hz=>by rw[List.mem_singleton.mp hz];exact hx,by simpa[cC,ga] using hm⟩,hp6,sb6⟩ (fun i d δ M7 hj hI=>?_)) (fun r M7 hI=>?_)
  ·clear hK K
   obtain⟨⟨z6,z8,rfl⟩,a7,⟨fs,f7,fl,fx,fm⟩,hp7,sb7⟩:=hI
   obtain⟨hi,rfl⟩:=jV hj
   rw[Nat.zero_add] at fl fm ⊢
   rw[dJ,au]
   refine aG fun K hK=>?_
   have s1:(rd (jk (nD s) (.int 1)):DM D)=pure (nD (s-1)):=oY (b:=1) (by omega)
   have s2:(rd (jk (nD (s-1)) (nD i)):DM D)=pure (nD (s-1-i)):=oY (by omega)
   simp[s1,s2,aQ,bz]
   have ixs2:aY (.ref q) (nD (s-1-i)) M7=some (lD (cG R y (s-1-i))):=jz (i:=s-1-i) a7 (by unfold kW;rw[List.getElem?_map,List.getElem?_range (by omega)];rfl)
   refine Rn.bindRd _ ixs2 ?_
   have al:(rd (kI (lD (cG R y (s-1-i)))):DM Itn)=pure (.fix ((cG R y (s-1-i)).map nD)):=rfl
   rw[al,au]
   simp only[lA]
   have ln:=sO (R:=R) (y:=y) n1 (s-1-i)
   have lx:∀z∈cG R y (s-1-i),z<R.length:=fun z hz=>vI hy hz
   have f0:0<fs.length:=by omega
   have lasR:cC fs<R.length:=fx _ (dF (by omega))
   have flast:aY (.ref q2) (.int (-1)) M7=some (nD (cC fs)):=by
    rw[sJ f7 (by simpa using f0)]
    unfold cC
    rw[mH (by omega)]
    simp
   refine Rn.bind (jn (uq (L:=cG R y (s-1-i)) (p:=fun z=>decide (0<ga (gr R (cC fs)) z)) (M:=M7) (x:=none) (rest:=[some (nM R),some (.ref q2)]) (by omega) (fun z hz=>?_) (fun z hz=>by simp))) fun pr M8 ⟨e1,e2⟩=>?_
   ·have g:∀a:Nat,(rd (gB (nD a) (.int 0)):DM D)=pure (.bl (decide (0<a))):=fun a=>jG a 0
    simp only[dm]
    refine Rn.bindRd _ flast ?_
    simp only[jT lasR,au,dI (l:=gr R (cC fs)) (i:=z) (by rw[wk.row _ (gr_mem lasR)];exact lx z hz),g,dB]
    exact Rn.pure ⟨rfl,rfl⟩
   subst e1
   rw[e2]
   have fm':cC fs∈xZ R (cG R y (s-1-i)):=by
    rw[show s-i=(s-1-i)+1 by omega] at fm;exact fm
   obtain⟨_,w,hw,hw0⟩:=jA.mp fm'
   have sub:∀z∈(cG R y (s-1-i)).filter fun z=>decide (0<ga (gr R (cC fs)) z),z∈cG R y (s-1-i):=fun z hz=>(List.mem_filter.mp hz).1
   have sl:0<((cG R y (s-1-i)).filter fun z=>decide (0<ga (gr R (cC fs)) z)).length:=List.length_pos_of_mem (List.mem_filter.mpr ⟨hw,by simpa using hw0⟩)
   have sl2:=List.length_filter_le (fun z=>decide (0<ga (gr R (cC fs)) z)) (cG R y (s-1-i))
   revert sub sl sl2
   generalize (cG R y (s-1-i)).filter (fun z=>decide (0<ga (gr R (cC fs)) z))=sm
   intro sub sl sl2
   rw[hK];clear hK K
   simp
   refine Rn.bindRd (fs.map nD) (by simp only[aV,f7]) ?_
   refine Rn.bind (cQ (m:=sm.length) hp7 sl (by omega)) fun d3 M9 ⟨u,gu,e,hp9,s9⟩=>?_
   subst e
   rw[lV gu,au]
   have f9:=s9.at (q:=q2) (fun z=>pq2 z.symm) f7
   refine Rn.run (mC f9 (by simp;omega)) ?_
   have zm:=sub _ (dF gu)
   refine Rn.pure ⟨_,rfl,⟨_,_,rfl⟩,?_,⟨fs++[ga sm u],?_,by simp;omega,fun z hz=>?_,?_⟩,hp9.sb (q:=q2) Sb.set pq2,Sb.new (p:=p) (.inr (sb7.trans s9).le) q2l Sb.set (sb7.trans s9)⟩
   ·rw[List.getElem?_set_ne ne];exact s9.at (q:=q) (fun z=>pq z.symm) a7
   ·rw[List.getElem?_set_self (List.getElem?_eq_some_iff.mp f9).1,List.map_append];rfl
   ·rcases List.mem_append.mp hz with hz | hz
    ·exact fx z hz
    ·rw[List.mem_singleton.mp hz];exact lx _ zm
   ·rw[yJ,show s-(i+1)=s-1-i by omega];exact zm
  ·obtain⟨δ',rfl,⟨z6,z8,rfl⟩,a7,⟨fs,f7,fl,fx,fm⟩,hp7,sb7⟩:=hI
   rw[hK];clear hK K
   rw[List.length_map,List.length_range,Nat.zero_add] at fl
   simp
   refine Rn.bindRd (nT fs) (by show (fM (.ref q2) M7).map _=_;simp only[fM,aV,f7];rfl) ?_
   exact Rn.pure ⟨_,rfl,⟨fs,rfl,fl,fx⟩,hp7,sb7⟩
noncomputable def uR:=aP 3 9 (jq uQ uU gP)
structure Wys(n k:Nat)(Ws:List (List Nat)):Prop where
 len:Ws.length=n
 le:∀w∈Ws,w.length≤k
 lt:∀w∈Ws,∀x∈w,x<n
noncomputable def Eu(R:List (List Nat))(M0:Mo)(p s y:Nat)(i:Nat)(δ:aa)(l:List D)(M:Mo):Prop:=(∃z,δ=[z,some (.ref p),some (nM R),some (.tup [nD s,nD y])])∧(∃Ws:List (List Nat),l=Ws.map nT∧Ws.length=i∧∀w∈Ws,w.length=s+1∧∀x∈w,x<R.length)∧bV p M∧Sb p M0 M
noncomputable def Es(R:List (List Nat))(M0:Mo)(p m s:Nat)(f:D)(i:Nat)(δ:aa)(M:Mo):Prop:=(∃Ws y z7 z8,δ=[some (.ref p),some (nM R),some (nD m),some f,some (.lst (Ws.map nT)),some (nD (s+i)),some (nD y),z7,z8]∧Wys R.length (s+1+i) Ws∧y<R.length)∧bV p M∧Sb p M0 M
theorem rK {n k:Nat}:∀ {Ws:List (List Nat)},(∀ w∈Ws,w.length≤k)->aZ (Ws.map nT)≤Ws.length * (1923 * k + 10)
 |[],_=>by simp[aZ]
 |w::Ws,h=>by
   have a:=rK (n:=n) (k:=k) fun w hw=>h w (.tail _ hw)
   have b:=h w (.head _)
   have c:wt (nT w)=1923*w.length+3:=by unfold nT;simp only[wt,nY]
   have e:(Ws.length+1)*(1923*k+10)=Ws.length*(1923*k+10)+(1923*k+10):=Nat.succ_mul _ _
   simp only[List.map_cons,aZ,c,List.length_cons]
   rw[e]
   omega
theorem zz{R:List (List Nat)}{W v:Nat}(wk:WK R W)(hv:v<R.length):∃z,z<R.length∧0<ga (gr R v) z:=by
 have hs:=wk.sum _ (gr_mem hv)
 have h:=rY (gr R v)
 rw[hs,decide_eq_true (show 0<W from wk.w1),List.any_eq_true] at h
 obtain⟨a,ha,h0⟩:=h
 obtain⟨z,hz,rfl⟩:=List.mem_iff_getElem.mp ha
 refine⟨z,by rw[←wk.row _ (gr_mem hv)];exact hz,?_⟩
 rw[mH hz]
 simp at h0
 omega
theorem Ao {R:List (List Nat)}{W p m:Nat}{M:Mo} (wk:WK R W) (h5:R.length≤5) (hp:bV p M) (hm:m≤4):Rn (uR [.ref p,nM R,nD m]) M fun d M'=>(Gd 100 3 d∧wt d≤218000)∧bV p M'∧Sb p M M':=by
 have n1:=wk.n1
 have hpl:=hp.lt
 unfold uR jq eZ;dsimp only
 refine Rn.call rfl ?_
 have st:cD 9 [.ref p,nM R,nD m]=[some (.ref p),some (nM R),some (nD m),none,none,none,none,none,none]:=rfl
 rw[st]
 refine aG fun K hK=>?_
 simp
 refine Rn.bind (zX wk h5 M) fun f M1 ⟨hf,sf⟩=>?_
 rw[hK];clear hK K
 have hp1:=hp.sb sf (by omega)
 have sb1:Sb p M M1:=⟨sf.le,fun q _ hl=>sf.keep q (by omega) hl⟩
 refine dq fun K hK hR=>?_
 rcases hf with rfl | ⟨s,y,rfl,hs,hy,hl⟩
 ·have isn:(rd (isD .non .non):DM D)=pure (.bl true):=bR fun _=>rfl
  simp[isn,hR]
  exact Rn.pure ⟨_,rfl,⟨.non,by simp[wt]⟩,hp1,sb1⟩
 have isn:(rd (isD (.tup [nD s,nD y]) .non):DM D)=pure (.bl false):=bR fun _=>rfl
 simp[isn]
 rw[hK];clear hK hR K
 refine aG fun K hK=>?_
 simp[cO,bJ (n:=R.length) (by omega),aQ,bz]
 have i0:(rd (aY (.tup [nD s,nD y]) (.int 0)):DM D)=pure (nD s):=iU (i:=0) rfl
 have i1:(rd (aY (.tup [nD s,nD y]) (.int 1)):DM D)=pure (nD y):=iU (i:=1) rfl
 refine Rn.bind (jn (fU (Eu R M p s y) _ 0 _ _ _ ⟨⟨_,rfl⟩,⟨[],rfl,rfl,fun _ h=>by cases h⟩,hp1,sb1⟩ (fun x d δ l M5 hx hI=>?_))) fun pr M5 hI=>?_
 ·obtain⟨⟨z,rfl⟩,⟨Ws,rfl,lW,hW⟩,hp5,sb5⟩:=hI
  obtain⟨hx',rfl⟩:=jV hx
  have lt:(Ws.map nT).length<sizeLine:=by show _<2^24;rw[List.length_map];omega
  rw[dJ,au]
  simp only[dm,if_true,bu,bw,i0,i1,List.set_cons_zero,↓reduceIte]
  refine Rn.bind (Bw wk hp5 hx' hy (by omega) (oK hx' (hl x hx'))) fun d M6 ⟨⟨fs,e,fl,fx⟩,hp6,s6⟩=>?_
  subst e
  rw[if_pos lt]
  refine Rn.pure ⟨⟨_,rfl⟩,⟨Ws++[fs],by rw[List.map_append];rfl,by simp;omega,fun w hw=>?_⟩,hp6,sb5.trans s6⟩
  rcases List.mem_append.mp hw with hw | hw
  ·exact hW w hw
  ·rw[List.mem_singleton.mp hw];exact⟨fl,fx⟩
 obtain⟨_,⟨Ws,eW,lW,hW⟩,hp5,sb5⟩:=hI
 rw[List.length_map,List.length_range,Nat.zero_add] at lW
 rw[eW,hK];clear hK K
 refine aG fun K hK=>?_
 simp
 rw[hK];clear hK K
 refine aG fun K hK=>?_
 simp[bJ (n:=m) (by omega),fF]
 refine Rn.bind (cB (Es R M p m s (.tup [nD s,nD y])) _ 0 _ _ ⟨⟨Ws,y,_,_,rfl,⟨lW,fun w hw=>Nat.le_of_eq (hW w hw).1,fun w hw=>(hW w hw).2⟩,hy⟩,hp5,sb5⟩ (fun i d δ M6 hj hI=>?_)) (fun r M6 hI=>?_)
 ·clear hK K
  obtain⟨⟨Vs,v,z7,z8,rfl,hV,hv⟩,hp6,sb6⟩:=hI
  obtain⟨hi,rfl⟩:=jV hj
  rw[Nat.zero_add] at hV ⊢
  rw[dJ,au]
  refine aG fun K hK=>?_
  simp[cO,bJ (n:=R.length) (by omega),aQ,bz]
  have cg:=bc (x:=none) (rest:=[some (nM R),some (nD v)]) (as:=List.range R.length) (ft:=fun δ=>opt δ[1]?.join>>=fun a=>opt δ[2]?.join>>=fun b=>rd (aY a b)>>=fun a=>opt δ[0]?.join>>=fun b=>rd (aY a b)>>=fun a=>rd (gB a (.int 0))>>=cU) (fe:=iY 0) nD (fun z=>decide (0<ga (gr R v) z)) nD (by simp;omega) (fun z hz=>by
   have g:∀a:Nat,(rd (gB (nD a) (.int 0)):DM D)=pure (.bl (decide (0<a))):=fun a=>jG a 0
   simp only[dm]
   simp only[jT hv,au,dI (l:=gr R v) (i:=z) (by rw[wk.row _ (gr_mem hv)];exact List.mem_range.mp hz),g,dB]) (fun _ _ _=>by simp)
  rw[cg,au,hK];clear hK K cg
  obtain⟨w,hw,hw0⟩:=zz wk hv
  have sub:∀z∈(List.range R.length).filter fun z=>decide (0<ga (gr R v) z),z<R.length:=fun z hz=>List.mem_range.mp (List.mem_filter.mp hz).1
  have sl:0<((List.range R.length).filter fun z=>decide (0<ga (gr R v) z)).length:=List.length_pos_of_mem (List.mem_filter.mpr ⟨List.mem_range.mpr hw,by simpa using hw0⟩)
  have sl2:=List.length_filter_le (fun z=>decide (0<ga (gr R v) z)) (List.range R.length)
  rw[List.length_range] at sl2
  revert sub sl sl2
  generalize (List.range R.length).filter (fun z=>decide (0<ga (gr R v) z))=sm
  intro sub sl sl2
  refine aG fun K hK=>?_
  simp
  refine Rn.bind (cQ (m:=sm.length) hp6 sl (by omega)) fun d3 M9 ⟨u,gu,e,hp9,s9⟩=>?_
  subst e
  rw[lV gu,au,hK];clear hK K
  have zm:=sub _ (dF gu)
  generalize ga sm u=z at zm
  have al:(rd (kI (.lst (Vs.map nT))):DM Itn)=pure (.fix (Vs.map nT)):=rfl
  have cv:=fJ (x:=none) (rest:=[some (nD z)]) (as:=Vs) (fe:=fun δ=>opt δ[0]?.join>>=fun a=>opt δ[1]?.join>>=fun b=>cV [b]>>=fun b=>rd (bY a b)) nT (fun w=>nT (w++[z])) (by rw[hV.len];omega) (fun w hw=>by
   have mk1:cV [nD z]=pure (nT [z]):=cu (by simp)
   have:=fu (x:=w.map nD) (y:=[z].map nD) (by have:=hV.le w hw;simp;omega)
   rw[←List.map_append] at this
   simp only[dm,mk1]
   exact this)
  simp[fj,al,aQ,bz]
  rw[cv,au]
  simp
  refine Rn.pure ⟨_,rfl,⟨Vs.map (·++ [z]),z,some (nD i),some (.lst (sm.map nD)),?_,⟨by simp[hV.len],fun w hw=>?_,fun w hw x hx=>?_⟩,zm⟩,hp9,sb6.trans s9⟩
  ·rw[List.map_map];rfl
  ·obtain⟨w',hw',rfl⟩:=List.mem_map.mp hw
   have:=hV.le w' hw'
   simp;omega
  ·obtain⟨w',hw',rfl⟩:=List.mem_map.mp hw
   rcases List.mem_append.mp hx with hx | hx
   ·exact hV.lt w' hw' x hx
   ·rw[List.mem_singleton.mp hx];exact zm
 ·obtain ⟨δ',rfl,⟨Vs,v,z7,z8,rfl,hV,hv⟩,hp6,sb6⟩:=hI
  rw[hK];clear hK K
  rw[List.length_map,List.length_range,Nat.zero_add] at hV ⊢
  have mk3:cV [nD (s+m),nD v,.tup (Vs.map nT)]=pure (.tup [nD (s+m),nD v,.tup (Vs.map nT)]):=cu (by simp)
  simp[mk3]
  have wv:=rK (n:=0) (k:=s+1+m) hV.le
  refine Rn.pure ⟨_,rfl,⟨.tup fun d hd=>?_,?_⟩,hp6,sb6⟩
  ·simp only[List.mem_cons,List.not_mem_nil,or_false] at hd
   rcases hd with rfl | rfl | rfl
   ·exact .int (by show s+m≤_;omega)
   ·exact .int (by show v≤_;omega)
   ·refine .tup fun d hd=>?_
    obtain⟨w,hw,rfl⟩:=List.mem_map.mp hd
    exact Gd.nats fun x hx=>by have:=hV.lt w hw x hx;omega
  ·have hb:Vs.length*(1923*(s+1+m)+10)≤5*(1923*22+10):=Nat.mul_le_mul (by rw[hV.len];exact h5) (by omega)
   simp only[wt,aZ,nD]
   omega
noncomputable def wF:=aP 1 14 (xV qw qx qy gP uR pO (pN 8) d8 jm qu)
noncomputable def Tg(d:D):Prop:=Gd (10^13) 7 d∧wt d≤1000000
noncomputable def Sg(d:D):Prop:=Gd 100 3 d∧wt d≤218000
noncomputable def Dm(cs:List Int)(i:Nat)(δ:aa)(M:Mo):Prop:=∃x1 x2 x3 x4 x5 x6 x7 x8 x9 x10 x11 x12 x13,δ=[some (.scr cs),x1,x2,x3,x4,x5,x6,x7,x8,x9,x10,x11,x12,x13]
noncomputable def Dr(cs:List Int)(p:Nat)(i:Nat)(δ:aa)(M:Mo):Prop:=(∃x1 x3 x4 x5 x6 x7 x8 x9 x10 x11 x12 x13,δ=[some (.scr cs),x1,some (.ref p),x3,x4,x5,x6,x7,x8,x9,x10,x11,x12,x13])∧bV p M
noncomputable def Dn(p:Nat)(R:List (List Nat))(i:Nat)(δ:aa)(l:List D)(M:Mo):Prop:=(∃z,δ=[z,some (.ref p),some (nM R)])∧l.length=i∧(∀d∈l,Sg d)∧bV p M
noncomputable def Do(cs:List Int)(p:Nat)(R:List (List Nat))(W:Nat)(S:List D)(i:Nat)(δ:aa)(M:Mo):Prop:=(∃x1 x3 x7 x9 x10 x11 x12 x13 T,δ=[some (.scr cs),x1,some (.ref p),x3,some (nM R),some (bU R W),some (.lst S),x7,some (.lst T),x9,x10,x11,x12,x13]∧T.length≤100+10*i∧∀d∈T,Tg d)∧bV p M
noncomputable def Dl(cs:List Int)(p:Nat)(R:List (List Nat))(W:Nat)(S:List D)(b:Nat)(d:D)(i:Nat)(δ:aa)(M:Mo):Prop:=(∃x1 x3 x7 x10 x11 x12 x13 T,δ=[some (.scr cs),x1,some (.ref p),x3,some (nM R),some (bU R W),some (.lst S),x7,some (.lst T),some d,x10,x11,x12,x13]∧T.length≤b+2*i∧∀d∈T,Tg d)∧bV p M
noncomputable def Dq(cs:List Int)(p:Nat)(R:List (List Nat))(W:Nat)(S T:List D)(i:Nat)(δ:aa)(M:Mo):Prop:=(∃x1 x3 x7 x9 x10 x11 x12 x13,δ=[some (.scr cs),x1,some (.ref p),x3,some (nM R),some (bU R W),some (.lst S),x7,some (.lst T),x9,x10,x11,x12,x13])∧bV p M
theorem yK (cs:List Int) (hcs:cs.length≤100000):Rn (wF [.scr cs]) [] fun d _=>d=.bl true:=by
 unfold wF xV uC;dsimp only
 refine Rn.call rfl ?_
 have st:cD 14 [D.scr cs]=[some (.scr cs),none,none,none,none,none,none,none,none,none,none,none,none,none]:=rfl
 rw[st]
 obtain⟨c0,ec⟩:=zP cs 0
 have ec':qw [.scr cs,.int 0]=pure (.int c0):=ec
 have l1:∀x:D,cN [x]=pure (.lst [x]):=fun x=>b8 (by simp)
 have cl:(cutD (cs.map D.int) (some 1) (some 4)).length≤100000:=by
  unfold cutD
  rw[List.length_take,List.length_drop,List.length_map]
  omega
 have ci:∀d∈[.int c0]++cutD (cs.map D.int) (some 1) (some 4),∃c:Int,d=.int c:=fun d hd=>by
  rcases List.mem_append.mp hd with h | h
  ·exact⟨c0,List.mem_singleton.mp h⟩
  ·unfold cutD at h
   obtain⟨c,_,rfl⟩:=List.mem_map.mp (List.mem_of_mem_drop (List.mem_of_mem_take h))
   exact⟨c,rfl⟩
 have ad:=pD (a:=[.int c0]) (b:=cutD (cs.map D.int) (some 1) (some 4)) (by simp;omega)
 have a1:(uV (.int 1):DM (Option Int))=pure (some 1):=rfl
 have a3:(uV (.int 4):DM (Option Int))=pure (some 4):=rfl
 refine aG fun K hK=>?_
 simp[ec',l1,CJ]
 rw[a1,au,a3,au,ad]
 simp only[au,Bl,fF,ir,List.map_cons,List.map_nil]
 clear ad cl
 generalize [.int c0]++cutD (cs.map D.int) (some 1) (some 4)=cl at ci
 refine Rn.bind (cB (Dm cs) cl 0 _ _ ⟨_,_,_,_,_,_,_,_,_,_,_,_,_,rfl⟩ (fun j d δ M hj hI=>?_)) (fun r M hI=>?_)
 rotate_left
 ·obtain⟨δ',rfl,_⟩:=hI
  rw[hK]
  exact Rn.pure rfl
 clear hK K
 obtain⟨c,rfl⟩:=ci d (List.mem_of_getElem? hj)
 obtain⟨x1,x2,x3,x4,x5,x6,x7,x8,x9,x10,x11,x12,x13,rfl⟩:=hI
 generalize 0+j+1=nx
 rw[dJ,au]
 refine aG fun K hK=>?_
 simp only[gZ,dm,bw]
 refine Rn.bind (zj c M) fun d M0 ⟨e,hp⟩=>?_
 subst e
 revert hp;generalize M.length=p;intro hp
 try simp only[gZ,au]
 rw[hK];clear hK K
 simp only[List.getElem?_cons_zero,List.getElem?_cons_succ,Option.join_some,ir,au,bw,show jf [.int 3]=some (.fix ((List.range 3).map nD)) from bJ (n:=3) (by decide),fF]
 refine (cB (Dr cs p) _ 0 _ _ ⟨⟨_,_,_,_,_,_,_,_,_,_,_,_,rfl⟩,hp⟩ (fun s d δ M2 hj2 hI=>?_)).mono (fun r M2 hI=>?_)
 rotate_left
 ·obtain⟨δ',rfl,⟨_,_,_,_,_,_,_,_,_,_,_,_,rfl⟩,_⟩:=hI
  exact⟨_,rfl,_,_,_,_,_,_,_,_,_,_,_,_,_,rfl⟩
 obtain⟨⟨y1,y3,y4,y5,y6,y7,y8,y9,y10,y11,y12,y13,rfl⟩,hp2⟩:=hI
 generalize 0+s+1=nx2
 rw[dJ,au]
 refine aG fun K hK=>?_
 simp only[gZ,dm,bw]
 refine Rn.bind (zB (tp:=5) hp2 (by decide) (by decide)) fun d M3 ⟨R,W,e,wk,h6,hW,hp3,_⟩=>?_
 subst e
 try simp only[gZ,au]
 rw[hK];clear hK K
 have n1:=wk.n1
 refine aG fun K hK=>?_
 simp[Bx wk,aQ,bz]
 refine Rn.bind (cQ (m:=5) hp3 (by decide) (by decide)) fun d1 M4 ⟨t,gt,e,hp4,_⟩=>?_
 subst e
 have mk3:cV [.int 0,.int 1,nD t]=pure (.tup [.int 0,.int 1,nD t]):=cu (by simp)
 simp only[mk3,au,Cr,ir,lA]
 refine Rn.bind (jn (fU (Dn p R) _ 0 _ _ _ ⟨⟨_,rfl⟩,rfl,fun _ h=>(by cases h),hp4⟩ (fun j d δ l M4 hj hI=>?_))) fun pr M5 hI=>?_
 ·obtain⟨⟨z,rfl⟩,hl,al,hp4⟩:=hI
  have jl:j<3:=(List.getElem?_eq_some_iff.mp hj).1
  have lt:l.length<sizeLine:=by show _<2^24;omega
  obtain⟨m,hm,rfl⟩:∃m:Nat,m≤4∧d=nD m:=by
   have:=List.mem_of_getElem? hj
   simp only[List.mem_cons,List.not_mem_nil,or_false] at this
   rcases this with rfl | rfl | rfl
   ·exact⟨0,by omega,rfl⟩
   ·exact⟨1,by omega,rfl⟩
   ·exact⟨t,by omega,rfl⟩
  simp[bu]
  refine Rn.bind (Ao wk h6 hp4 hm) fun d M5 ⟨g,hp5,_⟩=>?_
  simp only[lt,if_true]
  refine Rn.pure ⟨⟨_,rfl⟩,by simp;omega,fun d hd=>?_,hp5⟩
  rcases List.mem_append.mp hd with hd | hd
  ·exact al d hd
  ·rw[List.mem_singleton.mp hd];exact g
 obtain⟨_,lS,alS,hp5⟩:=hI
 have lS:pr.2.length=3:=lS
 generalize pr.2=S at lS alS
 have mk2:cV [bU R W,.lst S]=pure (.tup [bU R W,.lst S]):=cu (by simp)
 simp[mk2]
 rw[hK];clear hK K mk2 mk3
 refine aG fun K hK=>?_
 have mt1:∀a:D,cV [a]=pure (.tup [a]):=fun a=>cu (by simp)
 have mt2:∀a b:D,cV [a,b]=pure (.tup [a,b]):=fun a b=>cu (by simp)
 have mt3:∀a b c:D,cV [a,b,c]=pure (.tup [a,b,c]):=fun a b c=>cu (by simp)
 have mt0:cV []=pure (.tup []):=cu (by simp)
 have cs1:=fJ (x:=none) (rest:=[]) (as:=List.range R.length) (fe:=fun δ=>opt δ[0]?.join>>=fun a=>cV [a]) nD (fun x=>.tup [nD x]) (by simp;omega) (fun x hx=>by
  simp only[List.getElem?_cons_zero,Option.join_some,ir,au,mt1])
 simp[cO,bJ (n:=R.length) (by omega),aQ,bz]
 rw[cs1,au]
 simp only[mt3,au]
 rw[hK];clear hK K cs1
 refine aG fun K hK=>?_
 have ml:(rd (xm (.tup [.tup [.int 0,.int 0]]) (nD R.length)):DM D)=pure (.tup (List.replicate R.length (.tup [.int 0,.int 0]))):=bR fun M=>by
  show (if _ then _ else _)=_
  rw[if_pos]
  ·rfl
  ·first | decide | (simp[nD];omega) | (exact decide_eq_true ⟨by omega,by omega,by show _≤2^24;omega⟩)
 simp only[gZ,dm,bw,mt0,mt1,mt2,mt3,cO,ml]
 refine Rn.bind (oR hp5) fun o1 M6 ⟨⟨go,wo⟩,hp6,_⟩=>?_
 obtain⟨E6,hE6⟩:∃E:List D,E=[.tup [.int 0,.int 0,.tup ((List.range R.length).map fun x=>.tup [nD x])],.tup [.int 1,.int 0,.tup (List.replicate R.length (.tup [.int 0,.int 0]))],.tup [.tup [.tup [.int 0]],.tup [.tup [.int 0]]],.non,.tup [],o1]:=⟨_,rfl⟩
 have mlE:cN E6=pure (.lst E6):=b8 (by rw[hE6];simp)
 have lE:E6.length=6:=by rw[hE6];rfl
 have i0:∀{n:Nat},Gd 10 n (.int 0):=.int (by decide)
 have i1:∀{n:Nat},Gd 10 n (.int 1):=.int (by decide)
 have wr:∀n:Nat,aZ (List.replicate n (D.tup [.int 0,.int 0]))=3851*n:=fun n=>by
  induction n with
  |zero=>rfl
  |succ n ih=>simp only[List.replicate_succ,aZ,wt,ih];omega
 have wx:∀l:List Nat,aZ (l.map fun x=>.tup [nD x])=1928*l.length:=fun l=>by
  induction l with
  |nil=>rfl
  |cons a l ih=>simp only[List.map_cons,aZ,wt,nD,List.length_cons] at ih ⊢;omega
 have tgE:∀ d∈E6,Tg d:=fun d hd=>by
  rw[hE6] at hd
  simp only[List.mem_cons,List.not_mem_nil,or_false] at hd
  rcases hd with rfl | rfl | rfl | rfl | rfl | rfl
  ·refine⟨Gd.mono (B:=10) (n:=3) (by decide) (.tup fun x hx=>?_) (by decide),by simp only[aZ,wt,wx,List.length_range];omega⟩
   simp only[List.mem_cons,List.not_mem_nil,or_false] at hx
   rcases hx with rfl | rfl | rfl
   ·exact i0
   ·exact i0
   ·refine .tup fun x hx=>?_
    obtain⟨m,hm,rfl⟩:=List.mem_map.mp hx
    have:=List.mem_range.mp hm
    refine .tup fun x hx=>?_
    rw[List.mem_singleton.mp hx]
    exact .int (by show m≤_;omega)
  ·refine⟨Gd.mono (B:=10) (n:=3) (by decide) (.tup fun x hx=>?_) (by decide),by simp only[aZ,wt,wr];omega⟩
   simp only[List.mem_cons,List.not_mem_nil,or_false] at hx
   rcases hx with rfl | rfl | rfl
   ·exact i1
   ·exact i0
   ·refine .tup fun x hx=>?_
    rw[List.eq_of_mem_replicate hx]
    refine .tup fun x hx=>?_
    simp at hx
    rw[hx];exact i0
  ·refine⟨Gd.mono (B:=10) (n:=3) (by decide) (.tup fun x hx=>?_) (by decide),by simp only[aZ,wt];omega⟩
   simp at hx
   rw[hx]
   refine .tup fun x hx=>?_
   rw[List.mem_singleton.mp hx]
   refine .tup fun x hx=>?_
   rw[List.mem_singleton.mp hx];exact i0
  ·exact⟨.non,by simp[wt]⟩
  ·exact⟨.tup fun _ h=>(by cases h),by simp[wt,aZ]⟩
  ·exact⟨go.mono (by decide) (by decide),by omega⟩
 have adT:=pD (a:=S) (b:=E6) (by omega)
 rw[←hE6]
 simp only[gZ,mlE,au,adT]
 rw[hK];clear hK K
 have alT:∀d∈S++E6,Tg d:=fun d hd=>by
  rcases List.mem_append.mp hd with hd | hd
  ·have:=alS d hd;exact⟨this.1.mono (by decide) (by decide),by have:=this.2;omega⟩
  ·exact tgE d hd
 have lT:(S++E6).length≤100:=by rw[List.length_append];omega
 revert alT lT
 generalize S++E6=T
 intro alT lT
 refine aG fun K hK=>?_
 have al':∀l:List D,(rd (kI (.lst l)):DM Itn)=pure (.fix l):=fun _=>rfl
 have rg4:jf [.int 4]=some (.fix ((List.range 4).map nD)):=bJ (n:=4) (by decide)
 have rg2:jf [.int 2]=some (.fix ((List.range 2).map nD)):=bJ (n:=2) (by decide)
 simp only[dm,bw,al',fF]
 refine Rn.bind (cB (Do cs p R W S) _ 0 _ _ ⟨⟨_,_,_,_,_,_,_,_,_,rfl,by omega,alT⟩,hp6⟩ (fun s d δ M7 hj3 hI=>?_)) (fun r M7 hI=>?_)
 ·clear hK K
  obtain⟨⟨z1,z3,z7,z9,z10,z11,z12,z13,T,rfl,lT,alT⟩,hp7⟩:=hI
  have sl:=(List.getElem?_eq_some_iff.mp hj3).1
  have sg:=alS d (List.mem_of_getElem? hj3)
  rw[Nat.zero_add] at lT ⊢
  rw[dJ,au]
  simp only[gZ,dm,bw,rg4,fF]
  refine (cB (Dl cs p R W S (100+10*s) d) _ 0 _ _ ⟨⟨_,_,_,_,_,_,_,_,rfl,by omega,alT⟩,hp7⟩ (fun v d2 δ M8 hj4 hI=>?_)).mono (fun r M8 hI=>?_)
  ·obtain⟨⟨w1,w3,w7,w10,w11,w12,w13,T,rfl,lT,alT⟩,hp8⟩:=hI
   have vl:v<4:=by have:=(List.getElem?_eq_some_iff.mp hj4).1;simpa using this
   rw[Nat.zero_add] at lT ⊢
   rw[dJ,au]
   refine aG fun K hK=>?_
   simp only[gZ,dm,bw]
   refine Rn.bind (uX 8 (by decide) sg.1 hp8 (by have:=sg.2;omega)) fun b1 M9 ⟨⟨g1,w1⟩,hp9,_⟩=>?_
   rw[hK];clear hK K
   simp only[gZ,dm,bw]
   have s2:=sg.2
   refine Rn.bind (uX 8 (by decide) g1 hp9 (by omega)) fun b2 M10 ⟨⟨g2,w2⟩,hp10,_⟩=>?_
   have ml2:cN [b1,b2]=pure (.lst [b1,b2]):=b8 (by simp)
   have ad2:=pD (a:=T) (b:=[b1,b2]) (by simp;omega)
   simp only[gZ,ml2,au,ad2]
   refine Rn.pure ⟨_,rfl,⟨_,_,_,_,_,_,_,_,rfl,by simp;omega,fun d hd=>?_⟩,hp10⟩
   rcases List.mem_append.mp hd with hd | hd
   ·exact alT d hd
   ·simp only[List.mem_cons,List.not_mem_nil,or_false] at hd
    rcases hd with rfl | rfl
    ·exact⟨g1.mono (by decide) (by decide),by omega⟩
    ·exact⟨g2.mono (by decide) (by decide),by omega⟩
  ·obtain⟨δ',rfl,⟨w1,w3,w7,w10,w11,w12,w13,T,rfl,lT,alT⟩,hp8⟩:=hI
   exact⟨_,rfl,⟨_,_,_,_,_,_,_,_,_,rfl,by simp at lT;omega,alT⟩,hp8⟩
 obtain⟨δ',rfl,⟨z1,z3,z7,z9,z10,z11,z12,z13,T,rfl,lT,alT⟩,hp7⟩:=hI
 rw[hK];clear hK K
 simp only[dm,bw,al',fF]
 refine (cB (Dq cs p R W S T) _ 0 _ _ ⟨⟨_,_,_,_,_,_,_,_,rfl⟩,hp7⟩ (fun s d δ M8 hj3 hI=>?_)).mono (fun r M8 hI=>?_)
 rotate_left
 ·obtain⟨δ',rfl,⟨_,_,_,_,_,_,_,_,rfl⟩,hp8⟩:=hI
  exact⟨_,rfl,⟨_,_,_,_,_,_,_,_,_,_,_,_,rfl⟩,hp8⟩
 obtain⟨⟨z1,z3,z7,z9,z10,z11,z12,z13,rfl⟩,hp8⟩:=hI
 have tg:=alT d (List.mem_of_getElem? hj3)
 obtain⟨b,e1,e2⟩:=Aq wk tg.1 tg.2
 obtain⟨sv,esv⟩:=tg.1.sh (by decide +kernel) (by decide) (by have:=tg.2;omega)
 generalize 0+s+1=nx3
 rw[dJ,au]
 refine aG fun K hK=>?_
 simp[esv,e1,e2]
 rw[hK];clear hK K
 have mb:cN [.bl b,.bl b]=pure (.lst [.bl b,.bl b]):=b8 (by simp)
 have gb:Gd 0 1 (.lst [.bl b,.bl b]):=.lst fun x hx=>by simp at hx;rw[hx];exact .bl b
 obtain⟨sb,esb⟩:=gb.sh (by decide +kernel) (by decide) (by simp[wt,aZ])
 have c2:=fJ (x:=none) (rest:=[some (bU R W),some d]) (as:=List.range 2) (fe:=fun δ=>opt δ[1]?.join>>=fun a=>opt δ[2]?.join>>=fun b=>jm [a,b]) nD (fun _=>.bl b) (by simp) (fun x hx=>by
  simp only[dm,e1])
 have r2:(List.range 2).map (fun _:Nat=>D.bl b)=[.bl b,.bl b]:=rfl
 rw[r2] at c2
 simp[rg2,aQ,bz]
 rw[c2,au]
 simp[esb,mb,esv]
 exact Rn.pure ⟨_,rfl,⟨_,_,_,_,_,_,_,_,rfl⟩,hp8⟩
def vN(K:PySem.W.Frag):Bool:=K.all fun p=>!(p.2.cls==.type "list")
theorem Ay {K:PySem.W.Frag} (h:vN K=true) {a:Addr}{o:Obj} (e:K.lookup a=some o):o.cls≠.type "list":=by
 have:∀ (l:List (Addr×Obj)),(l.all fun p=>!(p.2.cls == .type "list"))=true->l.lookup a=some o->o.cls≠.type "list":=by
  intro l
  induction l with
  |nil=>intro _ e;cases e
  | cons p l ih=>
    intro h e
    rw[List.all_cons,Bool.and_eq_true] at h
    rw[List.lookup_cons] at e
    split at e
    ·cases e
     intro z
     rw[z] at h
     exact absurd h.1 (by decide)
    ·exact ih h.2 e
 exact this K h e
theorem rd_of{K:PySem.W.Frag}{H:Hp}{a:Addr}{xs:List V}(h:vN K=true)(s:SqL K H a xs):Rd H a (.lst xs):=by
 rcases s with s | ⟨o,its,n,e,c,_⟩
 ·exact s
 ·exact absurd c (Ay h e)
structure Cls(K:PySem.W.Frag)(mg:Str->Option Value)(CC_Walk:Addr)(tg_MOST_PLACES:Tok):Prop where
 m_MOST_PLACES:mg "MOST_PLACES"=some (.int 25 tg_MOST_PLACES)
 o_Walk:OCls K mg "Walk" CC_Walk ["rows", "whole"]
 k_Walk:PySem.W.makesIn K CC_Walk=true∧PySem.W.keepIn K (.ref CC_Walk)=true
 nl:vN K=true
theorem zQ{K:PySem.W.Frag}{h:Heap}{mg:Str->Option Value}(X:K.In h)(G:h.Ns mainGlobals mg){CC_Walk:Addr}{tg_MOST_PLACES:Tok}
  (g_MOST_PLACES:PySem.W.nsIn K mainGlobals "MOST_PLACES"=some (some (.int 25 tg_MOST_PLACES)))
  (cm_Walk:PySem.W.nsIn K mainGlobals "Walk"=some (some (.ref CC_Walk)))
  (pg_Walk:PySem.W.plainGet K CC_Walk Str.empty=true)
  (hd_Walk:PySem.W.hasDictIn K CC_Walk=true)
  (po_Walk:PySem.W.plainOver K CC_Walk=true)
  (sa_Walk:PySem.W.findIn K (.ref CC_Walk) "__setattr__"=some (some (.builtin "object.__setattr__")))
  (mk_Walk:PySem.W.makesIn K CC_Walk=true)
  (kc_Walk:PySem.W.keepIn K (.ref CC_Walk)=true)
  (nf_Walk_rows:PySem.W.findIn K (.ref CC_Walk) "rows"=some none)
  (nf_Walk_whole:PySem.W.findIn K (.ref CC_Walk) "whole"=some none)
  (nl:vN K=true)
  : Cls K mg CC_Walk tg_MOST_PLACES:=by
 have nof_Walk:∀f∈(["rows", "whole"]:List Str),NoAttr K CC_Walk f:=by
  intro f hf
  simp only[List.mem_cons,List.not_mem_nil,or_false] at hf
  rcases hf with rfl | rfl
  ·exact nf_Walk_rows
  ·exact nf_Walk_whole
 refine⟨PySem.W.mg_of X G g_MOST_PLACES,⟨PySem.W.mg_of X G cm_Walk,⟨pg_Walk,hd_Walk,po_Walk,sa_Walk⟩,nof_Walk⟩,⟨mk_Walk,kc_Walk⟩,nl⟩
def spLaw(K:PySem.W.Frag):Sp:=fun vs H Q _=>∃(a:Addr) (ns:List Int),vs=[.ref a]∧SqL K H a (ns.map V.int)∧ns.length≤63∧∀H',Q (.bl true) H'
theorem CP{K:PySem.W.Frag}{mg:Str->Option Value}(nl:vN K=true){vs:List V}{H:Hp}{Q:VK}{E:XK}(h:spLaw K vs H Q E):tR mg wF vs H Q E:=by
 obtain⟨a,ns,rfl,hS,hl,q⟩:=h
 have rd:=rd_of nl hS
 obtain⟨d,M',e,ed⟩:=yK ns (by omega)
 refine⟨⟨[],[]⟩,[],[.scr ns],.cons (.scr (fun z=>by rcases z with z | z<;>cases z) rd) .nil,⟨rfl,List.nodup_nil,fun n a o h=>by simp at h,fun a h=>by cases h⟩,_,e,fun ρ' H' b x j c=>?_⟩
 subst ed
 cases c
 exact q H'
theorem Ey {P:Program}{w:World}{K:PySem.W.Frag}{mg:Str->Option Value}{base:Heap}{k:Nat}{x:Str}{N ps:List Str}{st:Stmt}{fb:aa->DM Fl}{f:Addr}{fd:FuncData} (F:Fun K x x st f fd) (S:FnScope N ps (defScope st))
  (hbody:∀(cdv:Value) (A:Around) (outer:List Env) (s:Shared) (H:Hp) (E:XK),Room k (A.deeper (PyProof.Rows.envOfC x (defScope st) s.heap.objs.size f cdv))->
    DSs (gY P w K mg base N x (defScope st) f cdv A outer s H E) E (defBody st) fb):FnOk P w K mg base (dW P w) (k+1) f fd ps (tR mg (aP ps.length N.length fb)):=by
 refine Dh F S (fun vs H Q E h=>?_) fun cdv A outer s H vs Q E hr h=>?_
 ·obtain⟨ρ,M,ds,c,j,g⟩:=h
  rw[c.len];exact (bF.aP g).1
 obtain⟨ρ,M,ds,c,j,g⟩:=h
 exact⟨_,(hbody cdv A outer s H E hr).h,ρ,_,M,nA c,j,(bF.aP g).2⟩
theorem all_mk{P:Program}{w:World}{K:PySem.W.Frag}{mg:Mg}{fa:Addr}{CC_Walk:Addr}{tg_MOST_PLACES:Tok}(hfa:mg "law"=some (.ref fa)){h:Heap}(X:K.In h)(G:h.Ns mainGlobals mg)(t0:TD K "is_whole" j8)(t1:TD K "are_weights" gq)(t2:TD K "are_rows" jZ)(t3:TD K "is_place" j0)(t4:MethAt K CC_Walk "__len__" "Walk.__len__" cT)(t5:TD K "is_way" nP)(t6:TD K "is_meeting" iz)(t7:TD K "can_be_walked" eN)(t8:MethAt K CC_Walk "__init__" "Walk.__init__" eG)(t9:TD K "_law_cell_at" fD)(t10:TD K "_law_next" jh)(t11:TD K "_law_pen_of" gk)(t12:TD K "_law_draw" jg)(t13:TD K "_law_rows" ji)(t14:TD K "_law_odd" jX)(t15:TD K "_law_bent" fL)(t16:TD K "_law_whole" iy)(t17:TD K "_law_is_way" gj)(t18:TD K "_law_is_meeting" dM)(t19:TD K "_law_first" iu)(t20:TD K "_law_way" jY)(t21:TD K "_law_meeting" fG)(t22:TD K "law" uI)(z0:TB K "all")(z1:TB K "bool")(z2:TB K "enumerate")(z3:TB K "int")(z4:TB K "isinstance")(z5:TB K "len")(z6:TB K "list")(z7:TB K "max")(z8:TB K "range")(z9:TB K "repr")(z10:TB K "sum")(z11:TB K "tuple")(Z:Cls K mg CC_Walk tg_MOST_PLACES) :
  ∃fd:FuncData,(∀(s:Shared) (v:Value),BindsTo s fd ⟨[v],[]⟩ [("_law_script",v)])∧∀base:Heap,K.In base->base.Ns mainGlobals mg->FnOk P w K mg base (dW P w) 16 fa fd ["_law_script"] (spLaw K):=by
 obtain⟨f,fd,F,m⟩:=(t22 X G).ex
 have e:=hfa.symm.trans m
 cases e
 refine⟨fd,?_,fun base _ _=>?_⟩
 ·obtain⟨oc,od,kV,doc,pm,an,cdv,ct,osl,rfl,_⟩:=F.ex
  exact fun s v=>.of_eq rfl
 have yz0:=PySem.W.mg_none_of X G z0
 have yz1:=PySem.W.mg_none_of X G z1
 have yz2:=PySem.W.mg_none_of X G z2
 have yz3:=PySem.W.mg_none_of X G z3
 have yz4:=PySem.W.mg_none_of X G z4
 have yz5:=PySem.W.mg_none_of X G z5
 have yz6:=PySem.W.mg_none_of X G z6
 have yz7:=PySem.W.mg_none_of X G z7
 have yz8:=PySem.W.mg_none_of X G z8
 have yz9:=PySem.W.mg_none_of X G z9
 have yz10:=PySem.W.mg_none_of X G z10
 have yz11:=PySem.W.mg_none_of X G z11
 have D0:DefD P w K mg base _ _ _ kj:=okd (t0 X G) rT ((oX).2 yz1 yz3 yz4)
 have D1:DefD P w K mg base _ _ _ rW:=okd (t1 X G) pH ((kZ kj).2 D0 yz0 yz4 yz5 yz11)
 have D2:DefD P w K mg base _ _ _ uO:=okd (t2 X G) rQ ((oV rW).2 D1 yz0 yz4 yz5 yz11)
 have D3:DefD P w K mg base _ _ _ mV:=okd (t3 X G) rR ((oW kj).2 D0)
 have M4:MethD P w K mg base _ "Walk" _ _ _ _ lz:=Dj t4 Z.o_Walk.at_ Z.o_Walk.cls oZ ((jD).2 Z.o_Walk yz5)
 have D5:DefD P w K mg base _ _ _ km:=okd (t5 X G) wu ((rA mV lz).2 D3 M4 Z.o_Walk yz0 yz4 yz5 yz8 yz11)
 have D6:DefD P w K mg base _ _ _ jm:=okd (t6 X G) lu ((lU mV kj km lz).2 D3 D0 D5 M4 yz0 yz4 yz5 yz8 yz11)
 have D7:DefD P w K mg base _ _ _ uP:=okd (t7 X G) iC ((iT uO).2 D2 Z.m_MOST_PLACES yz0 yz4 yz5 yz10 yz11)
 have M8:MethD P w K mg base _ "Walk" _ _ _ _ Fin:=Dj t8 Z.o_Walk.at_ Z.o_Walk.cls nQ ((iR uP).2 D7 Z.o_Walk yz10)
 have W_Walk:ClsD P w K mg base _ "Walk" qu:=Dv M8 (fun _ _ _ _ _ _ us hl=>match us,hl with | [_,_],_=>rfl) (fun C hC=>by
  have q:=hC.symm.trans Z.o_Walk.at_
  cases q
  exact Z.k_Walk) By
 have D9:DefD P w K mg base _ _ _ qw:=okd (t9 X G) o4 ((jE).2 yz5)
 have D10:DefD P w K mg base _ _ _ uT:=okd (t10 X G) mj ((m9).2 )
 have D11:DefD P w K mg base _ _ _ qx:=okd (t11 X G) jH ((gh).2 yz3 yz7)
 have D12:DefD P w K mg base _ _ _ gP:=okd (t12 X G) lY ((jc uT).2 D10)
 have D13:DefD P w K mg base _ _ _ qy:=okd (t13 X G) mq ((je gP).2 D12 yz3 yz5 yz6 yz8 yz11)
 have D14:DefD P w K mg base _ _ _ pO:=okd (t14 X G) nj ((jQ gP).2 D12)
 have R15:∀n,DefD P w K mg base (3+n) _ _ (pN n):=fun n=>by
  induction n with
  |zero=>exact (okd (k:=2) (t15 X G) iB fun _=>vq)
  |succ n ih=>exact okd (t15 X G) iB ((iZ gP pO (pN n)).2 (Nat.le_add_right _ _) D12 D14 ih yz3 yz4 yz5 yz6 yz11)
 have D15:DefD P w K mg base _ _ _ (pN 8):=R15 _
 have D16:DefD P w K mg base _ _ _ n6:=okd (t16 X G) qb ((lQ).2 yz1 yz3 yz4)
 have D17:DefD P w K mg base _ _ _ cW:=okd (t17 X G) pG ((kY n6).2 D16 yz4 yz5 yz8 yz11) (fun _ _ _ _ _ _ us hl=>match us,hl with | [_,_,_,_,_],_=>rfl)
 have D18:DefD P w K mg base _ _ _ d8:=okd (t18 X G) lZ ((gC n6 cW).2 D16 D17 yz0 yz2 yz4 yz5 yz11)
 have D19:DefD P w K mg base _ _ _ uQ:=okd (t19 X G) lg ((ie).2 yz5 yz8)
 have D20:DefD P w K mg base _ _ _ uU:=okd (t20 X G) nq ((jR gP).2 D12 yz5 yz8 yz11) (fun _ _ _ _ _ _ us hl=>match us,hl with | [_,_,_,_,_],_=>rfl)
 have D21:DefD P w K mg base _ _ _ uR:=okd (t21 X G) iV ((eZ uQ uU gP).2 D19 D20 D12 yz5 yz8 yz11)
 exact ((Ey (P:=P) (w:=w) (base:=base) F ww fun cdv A outer s H E hr=>(uC qw qx qy gP uR pO (pN 8) d8 jm qu).2 D9 D11 D13 D12 D21 D14 D15 D18 D6 W_Walk yz5 yz8 yz9 yz11 hr).imp fun vs H Q E h=>CP Z.nl h).mono (by decide)
theorem walk {l:PySem.W.OpenLaw}{q:Program}{loose:List Str}{XP:(Str->Option Value)->Heap->Prop}{YP:World->Heap->Prop}{d:DefRec}{K:Params->PySem.W.Frag} (hn:l.most=some 63) (hdf:d.params.defaults=[])
  (hY:∀(w:World) (h:Heap),YP w h->(K w.params).In h)
  (F:∀(w:World) (mg:Str->Option Value) (fa:Addr) (h:Heap),(K w.params).In h->h.Ns mainGlobals mg->mg d.name=some (.ref fa)->
    ∃fd:FuncData,(∀(s:Shared) (u:Value),BindsTo s fd ⟨[u],[]⟩ [("_law_script",u)])∧∀base:Heap,(K w.params).In base->base.Ns mainGlobals mg->FnOk l.prog w (K w.params) mg base (dW l.prog w) 16 fa fd ["_law_script"] (spLaw (K w.params))) :
  PySem.W.WalkO q loose XP YP l.row.toRowW d [] (fun f vs=>PySem.call f vs):=
 L2.walk_of (n:=63) (k:=16) (x := "_law_script") (CX:=fun w=>dW l.prog w) (sp:=fun w=>spLaw (K w.params)) hn (by decide) hdf ⟨rfl,by decide,by decide,rfl⟩ hY F (fun _ _ a ns hl _ hS=>⟨a,ns,rfl,hS,hl,fun _=>rfl⟩) fun _ _ _ _ _ z=>by
  obtain⟨_,_,_,_,_,_,_,_,_,_,_,_,_,q⟩:=z
  exact q.elim
end K
open PySem PySem.W PyProof.Rows
set_option maxRecDepth 100000 in
set_option maxHeartbeats 0 in
theorem PySem.Challenge.cw_fadewalk_k32_meetings_looked_at_holds : PySem.Challenge.rw_fadewalk_k32_meetings_looked_at.Holds := by
 w_on;refine T.cut ?_
 k_fill
 refine K.walk (l:=PySem.Challenge.rw_fadewalk_k32_meetings_looked_at) rfl rfl (fun w h Y=>PySem.W.kIn_of Y) ?F
 case F=>
  intro w mg fa h KX G hmg
  refine' K.all_mk hmg KX G ?t0 ?t1 ?t2 ?t3 ?t4 ?t5 ?t6 ?t7 ?t8 ?t9 ?t10 ?t11 ?t12 ?t13 ?t14 ?t15 ?t16 ?t17 ?t18 ?t19 ?t20 ?t21 ?t22 ?z0 ?z1 ?z2 ?z3 ?z4 ?z5 ?z6 ?z7 ?z8 ?z9 ?z10 ?z11 (K.zQ KX G ?g_MOST_PLACES ?cm_Walk ?pg_Walk ?hd_Walk ?po_Walk ?sa_Walk ?mk_Walk ?kc_Walk ?nf_Walk_rows ?nf_Walk_whole ?nl)
  case cm_Walk=>k_is
  case g_MOST_PLACES | pg_Walk | hd_Walk | po_Walk | sa_Walk | mk_Walk | kc_Walk | nf_Walk_rows | nf_Walk_whole | nl=>first | k_is | k_exc | kernel_rfl
  case t4 | t8=>apply L2.vM<;>k_is
  case t0 | t1 | t2 | t3 | t5 | t6 | t7 | t9 | t10 | t11 | t12 | t13 | t14 | t15 | t16 | t17 | t18 | t19 | t20 | t21 | t22=>apply L3.CV<;>k_is
  case z0 | z1 | z2 | z3 | z4 | z5 | z6 | z7 | z8 | z9 | z10 | z11=>delta L3.TB;k_is
