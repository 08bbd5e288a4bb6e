import PyProof.Rows.All
import Wide.All
import OpenK.AllK
import Wide.FinOn
import Lean
import PyProof.EqAt
import PyProof.EqKinds
import PyProof.TupleCall
import PyProof.ReprRoads
import PyProof.P3Eq
import PyProof.NeData
import PyProof.ReprLen
import PyProof.Rows.RegStrFacts
import OpenK.KOwn
import PyProof.StationsW
import PyProof.Rows.Catch
import PyProof.Rows.Own
import PyProof.RulesAs
import PyProof.ExcBaseAll.ValueError
import PyProof.NsDelKeeps
import PyProof.ExcArgsOwn
import PyProof.ExcAttrAll.ValueError
import PyProof.CompFree
import PyProof.CompMap
import PyProof.ConsumeWalk
import PyProof.SumWalk
import PyProof.Rows.TupIter
import PyProof.Rows.SumGenD
import PyProof.FString
import PyProof.Rows.FStr
import PyProof.Rows.RuleIs
import PyProof.FactsAll.tuple_iterator_1
import PyProof.FactsAll.tuple_2
import PyProof.FactsAll.list_3
import PyProof.Cells
import PyProof.ZipIter
import PyProof.EnumMake
import PyProof.EnumFor
import PyProof.ListRange
import PyProof.TupleOfSeq
import PyProof.Rows.SetFrom
import PyProof.Rows.SortShell
import PyProof.CollectWalk
import PyProof.FactsAll.set_1
import PyProof.Rows.SortWalk
import PyProof.FactsAll.set_2
import KE.KDictSum
import KE.KSortTup
import KE.KTupSum
import PyProof.WalkInts
import PyProof.SeqI3
import PyProof.Conv_int_bool
import PySem.Challenge.RW_fadewalk_k57_rules_that_part_least
set_option Elab.async false
set_option maxRecDepth 100000
set_option maxHeartbeats 8000000
namespace T
open PySem PySem.W PyProof.Rows
/-- the top's run over a tree -/
noncomputable def runT (p : Program) (w : World) (m : Nat) (a : Option Value) : Nat → SharedT → Thread → Option SharedT
  | 0, _, _ => none
  | n + 1, s, t => match through t with
    | true => some s
    | false => match stepOk m a t with
      | false => none
      | true => match stepT (denote treeTable) p w s t with
        | some r => runT p w m a n r.1 r.2
        | none => none
theorem run_of {p : Program} {w : World} {m : Nat} {a : Option Value} : ∀ {n : Nat} {s s' : SharedT} {t : Thread}, runT p w m a n s t = some s' → topRun treeTable p w m a n s.abs t = some s'.abs
  | 0, _, _, _, h => by cases h
  | n + 1, s, s', t, h => by
    unfold runT at h
    unfold topRun
    cases ht : through t with
    | true => rw [ht] at h; cases h; rfl
    | false =>
      rw [ht] at h
      cases hk : stepOk m a t with
      | false => rw [hk] at h; cases h
      | true =>
        rw [hk] at h
        cases hs : stepT (denote treeTable) p w s t with
        | none => rw [hs] at h; cases h
        | some r => obtain ⟨s2, t2⟩ := r; rw [hs] at h; rw [stepT_spec hs]; exact run_of h
noncomputable def grow : List Obj → Nat → BT → BT
  | [], _, t => t
  | o :: l, n, t => grow l (n + 1) (t.ins n o)
noncomputable def bootT (B : Heap) (os : OsState) : SharedT := ⟨grow B.objs.toList 0 .nil, B.objs.size, B.life, #[], boot_drawn, boot_toks, os⟩
noncomputable def bootA (w : World) (os : OsState) : Shared := ⟨boot_heap w.params, #[], boot_drawn, boot_toks, os⟩
theorem boot_abs (w : World) (os : OsState) : (bootT (boot_heap w.params) os).abs = bootA w os := by kernel_rfl
theorem boot_ns (w : World) : ((boot_heap w.params).isNs mainGlobals && (#[] : Array GenState).size == 0) = true := by kernel_rfl
noncomputable def chk {α : Type} (p q : Program) (loose : List Str) (Xt : Shared → Bool) (Yf : Shared → α) (N : Nat) (B : Heap) (w : World) (os : OsState) :=
  (runT p w B.objs.size (B.nsMap mainGlobals "__annotations__") N (bootT B os) (topStub p)).map fun s =>
    (staticsOk (importedModules p.main.body) B s.abs.heap && namesBound p s.abs.heap && gensDone s.abs && laidKept B s.abs.heap, openSeen q loose (importedModules p.main.body) Xt true s.abs, Yf s.abs)
theorem left {α : Type} {p q : Program} {loose : List Str} {Xt : Shared → Bool} {Yf : Shared → α} {Ya : World → α} {N : Nat} (e : opening p = plainProg p.main.scope.names) (hN : Nat.ble 600 N = true) (f : ∀ s, fenceModules? p s = some s)
    (h : ∀ (w : World) (os : OsState), chk p q loose Xt Yf N (boot_heap w.params) w os = some (true, openGood q loose, Ya w)) : LeftO p q loose Xt Yf Ya N := fun w => by
  obtain ⟨⟨hh, gs, d, k, os⟩, e1, e2⟩ := Option.map_eq_some_iff.mp (boot_open (N := N) e hN f w)
  obtain ⟨rfl, rfl, rfl, rfl⟩ : hh = boot_heap w.params ∧ gs = #[] ∧ d = boot_drawn ∧ k = boot_toks := by simpa using e2
  obtain ⟨s, r1, r2⟩ := Option.map_eq_some_iff.mp (h w os)
  have r := run_of r1
  rw [boot_abs] at r
  obtain ⟨l1, l2, l3⟩ : _ ∧ _ ∧ _ := by simpa only [Prod.mk.injEq] using r2
  unfold openEnds topFrom
  rw [e1]
  show (match (boot_heap w.params).isNs mainGlobals && (#[] : Array GenState).size == 0 with | true => _ | false => _ : Option Shared).map _ = _
  rw [boot_ns]
  show ((topRun treeTable p w (boot_heap w.params).objs.size _ N (bootA w os) (topStub p)).bind _).map _ = _
  rw [r]
  show (match staticsOk (importedModules p.main.body) (boot_heap w.params) s.abs.heap && namesBound p s.abs.heap && gensDone s.abs && laidKept (boot_heap w.params) s.abs.heap with | true => _ | false => _ : Option Shared).map _ = _
  rw [l1]
  show some (openSeen q loose (importedModules p.main.body) Xt true s.abs, Yf s.abs) = some _
  rw [l2, l3]
noncomputable def tp (i : Nat) : Stmt := PySem.Challenge.pw_fadewalk_k57_rules_that_part_least.main.body.getD i (.Pass ⟨0, 0, 0, 0⟩)
noncomputable def view : Program := { PySem.Challenge.pw_fadewalk_k57_rules_that_part_least with main := { PySem.Challenge.pw_fadewalk_k57_rules_that_part_least.main with body := [tp 0, tp 2, tp 3, tp 5, tp 7, tp 8, tp 9, tp 11, tp 12, tp 13, tp 14, tp 15, tp 17, tp 18, tp 20, tp 21, tp 23, tp 24, tp 25, tp 26, tp 27, tp 28, tp 29, tp 30, tp 31, tp 32, tp 33, tp 34, tp 35, tp 36] } }
noncomputable def loos : List Str := ["Walk"]
noncomputable def lvs : List (Str × WData) := []
noncomputable def lhs (B : Heap) (as : List Addr) (w : World) (os : OsState) := chk PySem.Challenge.pw_fadewalk_k57_rules_that_part_least view loos (fun s => xlAt view lvs s && recOk (RowW.records (OpenRow.toRowW (OpenLaw.row PySem.Challenge.rw_fadewalk_k57_rules_that_part_least))) s) (fun s => as.map s.heap.get?) 3390 B w os
noncomputable def rhs (K : Params → Frag) (w : World) := some (true, openGood view loos, (K w.params).map fun p => some p.2)
lay_quick T.lhs T.rhs
theorem hook {K : Params → Frag} {as : List Addr} {e : ∀ P, as = (K P).map (·.1)} (h : ∀ (w : World) (os : OsState), PySem.W.Fast.tw12313586583820656202 (boot_heap w.params) as w os = PySem.W.Fast.tw7420988445182104193 K w) :
    LeftO PySem.Challenge.pw_fadewalk_k57_rules_that_part_least view loos (fun s => xlAt view lvs s && recOk (RowW.records (OpenRow.toRowW (OpenLaw.row PySem.Challenge.rw_fadewalk_k57_rules_that_part_least))) s) (Hook.obs (kHook K as e)) (Hook.val (kHook K as e)) 3390 :=
  left rfl (by decide) (fun _ => rfl) fun w os => by
    show lhs (boot_heap w.params) as w os = rhs K w
    rw [PySem.W.Fast.te12313586583820656202, PySem.W.Fast.te7420988445182104193]
    exact h w os
local macro_rules
  | `(tactic| o_head $H) => `(tactic| (
    refine PySem.W.holds_open (q := T.view) (loose := T.loos)
      (Xt := fun s => PySem.W.xlAt T.view T.lvs s && PySem.W.recOk (PySem.W.RowW.records (PySem.W.OpenRow.toRowW (PySem.W.OpenLaw.row PySem.Challenge.rw_fadewalk_k57_rules_that_part_least))) s)
      (XP := PySem.W.XL T.view T.lvs) (Yf := PySem.W.Hook.obs $H) (Ya := PySem.W.Hook.val $H)
      (YP := PySem.W.Hook.says $H) (N := 3390) ?hl (PySem.W.Hook.of $H) (PySem.W.Hook.keeps $H)
      (fun s e => PySem.W.xl_of s (Bool.and_eq_true_iff.mp e).1) PySem.W.XL.keeps rfl rfl rfl
      (fun s e => PySem.W.recFacts_of (Bool.and_eq_true_iff.mp e).2) rfl
      (by first | assumption | decide +kernel) (by decide +kernel)
      ⟨rfl, rfl, rfl, rfl, rfl, by decide +kernel⟩ ?hw ?hc; (case hl => exact T.hook (fun w os => by kernel_rfl))))
open_top cut for PySem.Challenge.rw_fadewalk_k57_rules_that_part_least
end T
set_option linter.all false
namespace L2
open PySem PySem.Spec PyProof.Rows
abbrev Key:=Sum Int Str
def keyIs:Key->Value->Bool
 | .inl k,v=>Value.isInt k v
 | .inr x,v=>Value.isStrOf x v
def keyH (w:World):Key->Int
 | .inl k=>hashInt k
 | .inr x=>hashStr w x
theorem keyIs_shape:∀ {k:Key}{v:Value},keyIs k v=true->(∃ i t,k=Sum.inl i∧v=Value.int i t)∨(∃ x t,k=Sum.inr x∧v=Value.str x t)
 | .inl i,v,h=>by
   obtain ⟨t,e⟩:=Value.isInt_shape (k:=i) (v:=v) h
   exact .inl ⟨i,t,rfl,e⟩
 | .inr x,v,h=>by
   obtain ⟨t,e⟩:=Value.isStrOf_shape (x:=x) (v:=v) h
   exact .inr ⟨x,t,rfl,e⟩
theorem keyIs_int (i:Int) (t:Tok):keyIs (.inl i) (.int i t)=true:=by simp [keyIs,Value.isInt]
theorem keyIs_str (x:Str) (t:Tok):keyIs (.inr x) (.str x t)=true:=by simp [keyIs,Value.isStrOf]
theorem key_ll (a b:Int):decide ((Sum.inl a:Key)=Sum.inl b)=(a == b):=by
 by_cases e:a=b
 ·subst e;simp
 ·have h:¬ (Sum.inl a:Key)=Sum.inl b:=fun q=>e (Sum.inl.inj q)
  rw [decide_eq_false h]
  exact (beq_eq_false_iff_ne.mpr e).symm
theorem key_rr (a b:Str):decide ((Sum.inr a:Key)=Sum.inr b)=decide (a=b):=by
 by_cases e:a=b
 ·subst e;simp
 ·have h:¬ (Sum.inr a:Key)=Sum.inr b:=fun q=>e (Sum.inr.inj q)
  rw [decide_eq_false h,decide_eq_false e]
theorem key_lr (a:Int) (b:Str):decide ((Sum.inl a:Key)=Sum.inr b)=false:=decide_eq_false (fun q=>nomatch q)
theorem key_rl (a:Str) (b:Int):decide ((Sum.inr a:Key)=Sum.inl b)=false:=decide_eq_false (fun q=>nomatch q)
def mixKind (prog:Program) (w:World):PySem.KeyKind prog w Key where
 is:=keyIs
 hash:=keyH w
 inj:=fun v a b ha hb=>by
  rcases keyIs_shape ha with ⟨i,t,rfl,rfl⟩ | ⟨x,t,rfl,rfl⟩
  ·rcases keyIs_shape hb with ⟨j,u,rfl,e⟩ | ⟨y,u,rfl,e⟩
   ·injection e with e1 _;rw [e1]
   ·exact nomatch e
  ·rcases keyIs_shape hb with ⟨j,u,rfl,e⟩ | ⟨y,u,rfl,e⟩
   ·exact nomatch e
   ·injection e with e1 _;rw [e1]
 byValue:=fun k v h=>by
  rcases keyIs_shape h with ⟨i,t,rfl,rfl⟩ | ⟨x,t,rfl,rfl⟩<;>rfl
 pyHash:=fun hv h=>by
  rcases keyIs_shape hv with ⟨i,t,rfl,rfl⟩ | ⟨x,t,rfl,rfl⟩
  ·exact wpAny_pyHash_int h
  ·exact wpAny_pyHash_str h
 eqBool:=fun hu hv h=>by
  rcases keyIs_shape hu with ⟨i,t,rfl,rfl⟩ | ⟨x,t,rfl,rfl⟩
  ·rcases keyIs_shape hv with ⟨j,u,rfl,rfl⟩ | ⟨y,u,rfl,rfl⟩
   ·rw [key_ll] at h;exact wpAny_eqBool_int h
   ·rw [key_lr] at h;exact SeqAt.EqAt.int_str i t y u _ _ _ _ h
  ·rcases keyIs_shape hv with ⟨j,u,rfl,rfl⟩ | ⟨y,u,rfl,rfl⟩
   ·rw [key_rl] at h;exact SeqAt.EqAt.str_int x t j u _ _ _ _ h
   ·rw [key_rr] at h;exact wpAny_eqBool_str h
 «strs»:=fun k x t v h=>by
  rcases keyIs_shape h with ⟨i,u,rfl,e⟩ | ⟨y,u,rfl,e⟩
  ·exact nomatch e
  ·injection e with e1 _
   subst e1
   cases v<;>rfl
theorem mixKind_int (prog:Program) (w:World) (i:Int) (t:Tok):(mixKind prog w).is (.inl i) (.int i t)=true:=keyIs_int i t
theorem mixKind_str (prog:Program) (w:World) (x:Str) (t:Tok):(mixKind prog w).is (.inr x) (.str x t)=true:=keyIs_str x t
open PySem PySem.Spec PyProof.Rows
inductive V where
 | non | bl (b:Bool) | int (i:Int) | str (x:Str) | byt (b:Array UInt8) | flt (b:UInt64) | ref (a:Addr) | ty (n:String)
 deriving DecidableEq
def RelV:V->Value->Prop
 | .non,u=>u=Value.none
 | .bl b,u=>u=Value.bool b
 | .int i,u=>∃ t,u=Value.int i t
 | .str x,u=>∃ t,u=Value.str x t
 | .byt b,u=>∃ t,u=Value.bytes b t
 | .flt b,u=>∃ t,u=Value.float b t
 | .ref a,u=>u=Value.ref a
 | .ty n,u=>u=Value.type n
abbrev Vals:List V->List Value->Prop:=Paired RelV
theorem Vals.length {xs:List V}{us:List Value} (r:Vals xs us):xs.length=us.length:=Paired.length r
theorem Vals.get:∀ {xs:List V}{us:List Value}{i:Nat}{x:V},Vals xs us->xs[i]?=some x->∃ u,us[i]?=some u∧RelV x u
 | _,_,_,_,.nil,e=>by simp at e
 | _,_,0,_,.cons r _,e=>by simp at e;subst e;exact ⟨_,rfl,r⟩
 | _,_,i + 1,x,.cons _ t,e=>by
   obtain ⟨u,h1,h2⟩:=Vals.get (i:=i) (x:=x) t (by simpa using e)
   exact ⟨u,by simpa using h1,h2⟩
theorem Vals.set {x:V}{u:Value} (r:RelV x u):∀ {xs:List V}{us:List Value} (i:Nat),Vals xs us->Vals (xs.set i x) (us.set i u)
 | _,_,_,.nil=>.nil
 | _,_,0,.cons _ t=>.cons r t
 | _,_,i + 1,.cons q t=>.cons q (Vals.set r i t)
theorem Vals.append:∀ {xs ys:List V}{us ws:List Value},Vals xs us->Vals ys ws->Vals (xs++ys) (us++ws)
 | _,_,_,_,.nil,s=>s
 | _,_,_,_,.cons r t,s=>.cons r (Vals.append t s)
theorem Vals.take:∀ {xs:List V}{us:List Value} (n:Nat),Vals xs us->Vals (xs.take n) (us.take n)
 | _,_,0,_=>.nil
 | _,_,_ + 1,.nil=>.nil
 | _,_,n + 1,.cons r t=>.cons r (Vals.take n t)
theorem Vals.drop:∀ {xs:List V}{us:List Value} (n:Nat),Vals xs us->Vals (xs.drop n) (us.drop n)
 | _,_,0,r=>r
 | _,_,_ + 1,.nil=>.nil
 | _,_,n + 1,.cons _ t=>Vals.drop n t
theorem Vals.none_of:∀ {xs:List V}{us:List Value}{i:Nat},Vals xs us->xs[i]?=none->us[i]?=none:=fun {xs us i} r e=>by
 have h1:=r.length
 have h2:xs.length≤i:=List.getElem?_eq_none_iff.mp e
 exact List.getElem?_eq_none_iff.mpr (by omega)
def RelO:Option V->Option Value->Prop
 | some v,some u=>RelV v u
 | none,none=>True
 | _,_=>False
def KV {κ:Type}:List (κ×V)->List (κ×Value)->Prop:=Paired fun (p:κ×V) (q:κ×Value)=>p.1=q.1∧RelV p.2 q.2
def kV:Key->V
 | .inl i=>.int i
 | .inr x=>.str x
inductive HO where
 /-- a list -/
 | lst (xs:List V)
 /-- a tuple (never changes) -/
 | tup (xs:List V)
 /-- a dict whose keys are ints and texts;one whose keys are tuples of ints and texts (the empty one is both) -/
 | dK (kvs:List (Key×V)) | dT (kvs:List (List Key×V))
 /-- a set of ints: its members,its size -/
 | set (S:Int->Bool) (n:Nat)
 /-- an instance of the class at C,its dict at dx,its attributes -/
 | ins (C dx:Addr) (fs:List (Str×V))
 /-- the dict of the instance at x -/
 | own (x:Addr)
 /-- the dict of an exception -/
 | xd (fs:List (Str×V))
 /-- a bound method,f of x -/
 | met (f x:Addr)
 /-- a range object lo,lo + 1,.. below hi -/
 | rng (lo hi:Int)
 /-- a thing that is known to the object (the script;a dict while a loop walks it): read,never written while it is so -/
 | frz (o:Obj) (u:HO)
 /-- a code object's table -/
 | tbl (ps:Array Value)
 /-- any other thing,by what is true of its one object (a def of one's own: SetO a S n:=HO.ext fun h=>..) -/
 | ext (φ:Heap->Prop)
abbrev Hp:=Addr->Option HO
def upd (H:Hp) (a:Addr) (o:HO):Hp:=fun b=>if b=a then some o else H b
theorem upd_same {H:Hp}{a:Addr}{o:HO}:upd H a o a=some o:=by unfold upd;rw [if_pos rfl]
theorem upd_ne {H:Hp}{a b:Addr}{o:HO} (h:b≠a):upd H a o b=H b:=by unfold upd;rw [if_neg h]
theorem ne_of_none {H:Hp}{a b:Addr}{o:HO} (h:H a=some o) (h':H b=none):a≠b:=by
 intro e;subst e;rw [h] at h';cases h'
section
variable (P:Program) (w:World)
def ObjOk (H:Hp) (h:Heap) (a:Addr):HO->Prop
 | .lst xs=>xs.length≤sizeLine∧∃ (its:List Value) (n:Nat),Vals xs its∧h.get? a=some { cls:=.type "list",data:=.seq its.toArray n }
 | .tup xs=>xs.length≤sizeLine∧∃ its:List Value,Vals xs its∧IsTup h a its.toArray
 | .dK kvs=>kvs.length≤sizeLine∧(a == sysModules)=false∧∃ vs,KV kvs vs∧h.DictOf (mixKind P w) a vs
 | .dT kvs=>kvs.length≤sizeLine∧(a == sysModules)=false∧∃ xs:List (List Key×Addr×Value),
   Paired (fun (p:List Key×V) (q:List Key×Addr×Value)=>p.1=q.1∧H q.2.1=some (.tup (p.1.map kV))∧RelV p.2 q.2.2) kvs xs ∧
   ∃ o es ep,h.get? a=some o∧o.ExactDict∧o.data=.dict es ep∧es.toList=xs.map (entryOfKey (tupleKind (mixKind P w)))∧(xs.map (·.1)).Nodup
 | .set S n=>h.SetOf (intKind P w) a S n
 | .ins C dx fs=>H dx=some (.own a)∧fs.length≤1000∧dx≠a∧h.get? a=some (PySem.W.instObj C dx) ∧
   ∃ mA,h.Ns1 dx mA∧(∀ f,RelO (fs.lookup f) (mA f))∧PySem.Within mA (fs.map (·.1))
 | .own _=>∃ o,h.get? a=some o
 | .xd fs=>∃ mA,h.Ns1 a mA∧∀ f,RelO (fs.lookup f) (mA f)
 | .rng lo hi=>∃ t u v,h.get? a=some { cls:=.type "range",data:=.fields #[.int lo t,.int hi u,.int 1 v] }
 | .frz o u=>h.get? a=some o∧ObjOk H h a u
 | .tbl ps=>h.get? a=some { cls:=.none,data:=.fields ps }
 | .met f x=>h.get? a=some (PySem.W.methodObj (.ref f) (.ref x))
 | .ext φ=>φ h∧(∃ o,h.get? a=some o)∧∀ h1 h2:Heap,φ h1->(∀ o,h1.get? a=some o->h2.get? a=some o)->φ h2
def HOk (H:Hp) (h:Heap):Prop:=∀ a o,H a=some o->ObjOk P w H h a o
end
section
variable {P:Program}{w:World}{H H':Hp}{h h':Heap}{a:Addr}{o:HO}
theorem ObjOk.lt (x:ObjOk P w H h a o):a<h.objs.size:=by
 cases o with
 | lst xs=>obtain ⟨_,_,_,_,e⟩:=x;exact Heap.lt_size e
 | tup xs=>obtain ⟨_,_,_,p⟩:=x;exact p.lt
 | dK kvs=>obtain ⟨_,_,_,_,o,_,_,e,_⟩:=x;exact Heap.lt_size e
 | dT kvs=>obtain ⟨_,_,_,_,o,_,_,e,_⟩:=x;exact Heap.lt_size e
 | set S n=>obtain ⟨o,_,_,_,e,_⟩:=x;exact Heap.lt_size e
 | ins C dx fs=>obtain ⟨_,_,_,e,_⟩:=x;exact Heap.lt_size e
 | own y=>obtain ⟨_,e⟩:=x;exact Heap.lt_size e
 | xd fs=>obtain ⟨_,⟨_,_,_,e,_⟩,_⟩:=x;exact Heap.lt_size e
 | rng lo hi=>obtain ⟨_,_,_,e⟩:=x;exact Heap.lt_size e
 | frz ob u=>obtain ⟨e,_⟩:=x;exact Heap.lt_size e
 | tbl ps=>exact Heap.lt_size (show h.get? a=some _ from x)
 | met f y=>exact Heap.lt_size (show h.get? a=some _ from x)
 | ext φ=>obtain ⟨_,⟨_,e⟩,_⟩:=x;exact Heap.lt_size e
theorem Paired.mapP {α β:Type}{F G:α->β->Prop}:∀ {l₁:List α}{l₂:List β},Paired F l₁ l₂->(∀ a b,F a b->G a b)->Paired G l₁ l₂
 | _,_,.nil,_=>.nil
 | _,_,.cons r t,f=>.cons (f _ _ r) (Paired.mapP t f)
theorem ObjOk.stay (x:ObjOk P w H h a o) (k:∀ b u,(b=a∨H b=some (.own a))->h.get? b=some u->h'.get? b=some u)
  (ho:∀ b,H b=some (.own a)->H' b=some (.own a)) (ht:∀ b xs,H b=some (.tup xs)->H' b=some (.tup xs)):ObjOk P w H' h' a o:=by
 induction o with
 | lst xs=>obtain ⟨z,its,n,r,e⟩:=x;exact ⟨z,its,n,r,k _ _ (.inl rfl) e⟩
 | tup xs=>obtain ⟨z,its,r,ob,e,c⟩:=x;exact ⟨z,its,r,ob,k _ _ (.inl rfl) e,c⟩
 | dK kvs=>obtain ⟨z,y,vs,r,ob,es,ep,e,c⟩:=x;exact ⟨z,y,vs,r,ob,es,ep,k _ _ (.inl rfl) e,c⟩
 | dT kvs=>
   obtain ⟨z,y,xs,r,ob,es,ep,e,c⟩:=x
   exact ⟨z,y,xs,Paired.mapP r fun p q z=>⟨z.1,ht _ _ z.2.1,z.2.2⟩,ob,es,ep,k _ _ (.inl rfl) e,c⟩
 | set S n=>obtain ⟨ob,es,ep,t,e,c⟩:=x;exact ⟨ob,es,ep,t,k _ _ (.inl rfl) e,c⟩
 | ins C dx fs=>
   obtain ⟨d,z,ne,e,mA,⟨od,es,ep,e2,c⟩,r⟩:=x
   exact ⟨ho _ d,z,ne,k _ _ (.inl rfl) e,mA,⟨od,es,ep,k _ _ (.inr d) e2,c⟩,r⟩
 | own y=>obtain ⟨ob,e⟩:=x;exact ⟨ob,k _ _ (.inl rfl) e⟩
 | xd fs=>obtain ⟨mA,⟨od,es,ep,e,c⟩,r⟩:=x;exact ⟨mA,⟨od,es,ep,k _ _ (.inl rfl) e,c⟩,r⟩
 | rng lo hi=>obtain ⟨t,u,v,e⟩:=x;exact ⟨t,u,v,k _ _ (.inl rfl) e⟩
 | frz ob u ih=>obtain ⟨e,q⟩:=x;exact ⟨k _ _ (.inl rfl) e,ih q⟩
 | tbl ps=>
   have e:h.get? a=some { cls:=.none,data:=.fields ps }:=x
   show h'.get? a=some { cls:=.none,data:=.fields ps }
   exact k a _ (.inl rfl) e
 | met f y=>
   have e:h.get? a=some (PySem.W.methodObj (.ref f) (.ref y)):=x
   show h'.get? a=some (PySem.W.methodObj (.ref f) (.ref y))
   exact k a _ (.inl rfl) e
 | ext φ=>obtain ⟨p,⟨o,e⟩,st⟩:=x;exact ⟨st _ _ p fun o q=>k _ _ (.inl rfl) q,⟨o,k _ _ (.inl rfl) e⟩,st⟩
theorem HOk.lt (x:HOk P w H h) (e:H a=some o):a<h.objs.size:=(x a o e).lt
theorem HOk.fresh (x:HOk P w H h) (e:h.objs.size≤a):H a=none:=by
 cases q:H a with
 | none=>rfl
 | some u=>exact absurd (Nat.lt_of_lt_of_le (x.lt q) e) (Nat.lt_irrefl _)
theorem HOk.kept (x:HOk P w H h) (k:∀ b u,h.get? b=some u->h'.get? b=some u):HOk P w H h':=fun a o e=>
 (x a o e).stay (fun b u _ q=>k b u q) (fun _ q=>q) fun _ _ q=>q
theorem HOk.laid (x:HOk P w H h) (k:∀ b u,h.get? b=some u->h'.get? b=some u) (hp:h.objs.size≤a) (new:ObjOk P w (upd H a o) h' a o):HOk P w (upd H a o) h':=fun b u e=>by
 have hn:=x.fresh hp
 by_cases hb:b=a
 ·subst hb;rw [upd_same] at e;cases e;exact new
 ·rw [upd_ne hb] at e
  exact (x b u e).stay (fun c v _ q=>k c v q) (fun c q=>by rw [upd_ne (ne_of_none q hn)];exact q) fun c xs q=>by rw [upd_ne (ne_of_none q hn)];exact q
end
def Rd (H:Hp) (a:Addr) (u:HO):Prop:=H a=some u∨∃ o,H a=some (.frz o u)
theorem Rd.ok {P:Program}{w:World}{H:Hp}{h:Heap}{a:Addr}{u:HO} (r:Rd H a u) (x:HOk P w H h):ObjOk P w H h a u:=by
 rcases r with r | ⟨o,r⟩
 ·exact x a u r
 ·obtain ⟨_,q⟩:=x a _ r
  exact q
def Mut:Option HO->Prop
 | some (.lst _)=>True
 | some (.dK _)=>True
 | some (.dT _)=>True
 | some (.set _ _)=>True
 | some (.ins _ _ _)=>True
 | some (.ext _)=>True
 | _=>False
section
variable {P:Program}{w:World}{H:Hp}{h h':Heap}{x e:Addr}{o':HO}
theorem HOk.write (ok:HOk P w H h) (mu:Mut (H x)) (he:e=x∨H e=some (.own x)) (k:∀ b u,b≠e->h.get? b=some u->h'.get? b=some u) (heo:∃ u,h'.get? e=some u)
  (new:ObjOk P w (upd H x o') h' x o'):HOk P w (upd H x o') h':=fun b u q=>by
 have nown:∀ c y,H c=some (.own y)->c≠x:=fun c y r z=>by subst z;rw [r] at mu;exact mu
 have ntup:∀ c xs,H c=some (.tup xs)->c≠x:=fun c xs r z=>by subst z;rw [r] at mu;exact mu
 by_cases hb:b=x
 ·subst hb;rw [upd_same] at q;cases q;exact new
 ·rw [upd_ne hb] at q
  by_cases hbe:b=e
  ·have q':H b=some (.own x):=by
    rcases he with z | z
    ·exact absurd (hbe.trans z) hb
    ·rw [hbe];exact z
   rw [q] at q';cases q'
   obtain ⟨v,hv⟩:=heo
   exact ⟨v,by rw [hbe];exact hv⟩
  ·refine (ok b u q).stay (fun c v hc r=>k c v ?_ r) (fun c r=>by rw [upd_ne (nown c b r)];exact r) fun c xs r=>by rw [upd_ne (ntup c xs r)];exact r
   rcases hc with rfl | hc
   ·exact hbe
   ·rintro rfl
    rcases he with z | z
    ·exact nown c b hc z
    ·rw [hc] at z;cases z;exact hb rfl
end
structure Un (fs ex:List Addr) (H H':Hp) (h h':Heap):Prop where
 keep:∀ b o,h.get? b=some o->H b=none->b∉fs->b∉ex->h'.get? b=some o
 slot:∀ b o,h.get? b=some o->H b=none->b∈fs->b∉ex->∃ sl,h'.get? b=some { o with slots:=sl }
 free:∀ b o,h.get? b=some o->H b=none->b∉ex->H' b=none
 there:∀ b o,h.get? b=some o->b∉ex->∃ o',h'.get? b=some o'
 tups:∀ b xs,H b=some (.tup xs)->H' b=some (.tup xs)
 frzs:∀ b o u,H b=some (.frz o u)->H' b=some (.frz o u)
 tbls:∀ b ps,H b=some (.tbl ps)->∃ more,H' b=some (.tbl (ps++more))
section
variable {fs fs' ex ex':List Addr}{H H1 H2:Hp}{h h1 h2 h':Heap}{a x e:Addr}{o:HO}
theorem Un.any (u:Un fs ex H H1 h h1) {b:Addr}{ob:Obj} (q:h.get? b=some ob) (n:H b=none) (hx:b∉ex):∃ sl,h1.get? b=some { ob with slots:=sl }:=by
 by_cases hb:b∈fs
 ·exact u.slot b ob q n hb hx
 ·exact ⟨ob.slots,u.keep b ob q n hb hx⟩
theorem Un.kept (k:∀ b u,h.get? b=some u->h'.get? b=some u):Un fs ex H H h h':=
 ⟨fun b ob q _ _ _=>k b ob q,fun b ob q _ _ _=>⟨ob.slots,k b ob q⟩,fun _ _ _ n _=>n,fun b ob q _=>⟨ob,k b ob q⟩,fun _ _ q=>q,fun _ _ _ q=>q,fun _ ps q=>⟨#[],by rw [q];simp⟩⟩
theorem Un.refl:Un fs ex H H h h:=Un.kept fun _ _ q=>q
theorem Un.laid (k:∀ b u,h.get? b=some u->h'.get? b=some u) (hp:h.objs.size≤a) (hn:H a=none):Un fs ex H (upd H a o) h h' where
 keep:=fun b u q _ _ _=>k b u q
 slot:=fun b u q _ _ _=>⟨u.slots,k b u q⟩
 free:=fun b u q n _=>by rw [upd_ne (Nat.ne_of_lt (Nat.lt_of_lt_of_le (Heap.lt_size q) hp))];exact n
 there:=fun b u q _=>⟨u,k b u q⟩
 tups:=fun b xs q=>by rw [upd_ne (ne_of_none q hn)];exact q
 frzs:=fun b u xs q=>by rw [upd_ne (ne_of_none q hn)];exact q
 tbls:=fun b ps q=>⟨#[],by rw [upd_ne (ne_of_none q hn),q];simp⟩
theorem Un.write (mu:Mut (H x)) (he:e=x∨H e=some (.own x)) (k:∀ b u,b≠e->h.get? b=some u->h'.get? b=some u) (heo:∃ u,h'.get? e=some u):Un fs ex H (upd H x o) h h':=by
 have hx:∀ b,H b=none->b≠x:=fun b n z=>by subst z;rw [n] at mu;exact mu
 have hb:∀ b,H b=none->b≠e:=fun b n z=>by
  subst z
  rcases he with r | r
  ·exact hx b n r
  ·rw [n] at r;cases r
 have hm:∀ b u,H b=some u->¬ Mut (some u)->b≠x:=fun b u q nm z=>by subst z;rw [q] at mu;exact nm mu
 refine ⟨fun b u q n _ _=>k b u (hb b n) q,fun b u q n _ _=>⟨u.slots,k b u (hb b n) q⟩,fun b u q n _=>by rw [upd_ne (hx b n)];exact n,fun b u q _=>?_,
  fun b xs q=>by rw [upd_ne (hm b _ q fun z=>z)];exact q,fun b u xs q=>by rw [upd_ne (hm b _ q fun z=>z)];exact q,fun b ps q=>⟨#[],by rw [upd_ne (hm b _ q fun z=>z),q];simp⟩⟩
 by_cases hbe:b=e
 ·subst hbe;exact heo
 ·exact ⟨u,k b u hbe q⟩
end
def trk (h:Heap) (H:Hp):List Addr:=(List.range h.objs.size).filter fun a=>(H a).isSome
def hidT (h:Heap) (H:Hp):Heap:=PySem.W.hideAll h (trk h H)
theorem hidT_size (h:Heap) (H:Hp):(hidT h H).objs.size=h.objs.size:=PySem.W.hideAll_size _ _
theorem hidT_get {h:Heap}{H:Hp}{b:Addr}{o:Obj} (e:h.get? b=some o) (n:H b=none):(hidT h H).get? b=some o:=
 PySem.W.hideAll_get _ e fun hm=>by
  have q:(H b).isSome=true:=(List.mem_filter.mp hm).2
  rw [n] at q;simp at q
theorem of_hidT {h:Heap}{H:Hp}{b:Addr}{o:Obj} (e:(hidT h H).get? b=some o):h.get? b=some o∧H b=none:=by
 have e':h.get? b=some o:=PySem.W.of_hideAll (trk h H) e
 refine ⟨e',?_⟩
 cases q:H b with
 | none=>rfl
 | some x=>
   have hm:b∈trk h H:=List.mem_filter.mpr ⟨List.mem_range.mpr (Heap.lt_size e'),by simp [q]⟩
   have z:(hidT h H).get? b=none:=PySem.W.hideAll_none (trk h H) hm
   rw [z] at e;cases e
def allNews (g h:Heap) (L:Addr):List (Addr×Obj):=(List.range h.objs.size).filterMap fun a=>if a=L∨(g.get? a).isSome=true then none else (h.get? a).map fun o=>(a,o)
def rest (g h:Heap) (L d:Addr):List (Addr×Obj):=(allNews g h L).filter fun p=>decide (p.1≠d)
open PySem PySem.Spec PyProof.Rows
structure Mod (K:PySem.W.Frag) (mg:Str->Option Value) (base:Heap):Prop where
 kin:K.In base
 glob:base.Ns mainGlobals mg
 blt:∃ mb,base.Ns builtinsNs mb∧∀ x:Str,x≠"__name__"->mb x=bootBuiltins x
 nolimit:base.NoLimit
structure Cx where
 prog:Program
 w:World
 K:PySem.W.Frag
 mg:Str->Option Value
 base:Heap
 A:Around
 N:List Str
 s₀:Shared
 H₀:Hp
 env:Env
 outer:List Env
 stack:List Env
 ex:List Addr
 fn:Str->Bool
 calm:Bool
 pn:List (Addr×Obj)
 xe:Value->Shared->Prop
def frs (l:List Env):List Addr:=l.filterMap (·.frame)
abbrev Cx.fs (X:Cx):List Addr:=frs X.outer
def Vis (sc:Scope) (x:Str):Prop:=sc.names.lookup x=some .local∨sc.names.lookup x=some .cell∨sc.names.lookup x=some .free
def Loc (sc:Scope) (x:Str):Prop:=sc.names.lookup x=some .local∨sc.names.lookup x=some .cell
def Look (env:Env) (h:Heap) (m:Str->Option Value) (x:Str) (u:Value):Prop:=
 (env.kindOf x=some .local∧m x=some u)∨((env.kindOf x=some .cell∨env.kindOf x=some .free)∧∃ c,env.cells.lookup x=some c∧h.IsCell c (some u))
structure Cx.Ok (X:Cx):Prop where
 mod:Mod X.K X.mg X.base
 kind:X.env.scope.kind=.function
 glob:X.env.globals=mainGlobals
 blt:X.env.builtins=builtinsNs
 above:X.s₀.heap.objs.size≤X.env.locals
 inj:∀ x y c,X.env.cells.lookup x=some c->X.env.cells.lookup y=some c->x=y
 has:∀ x,(X.env.kindOf x=some .cell∨X.env.kindOf x=some .free)->∃ c,X.env.cells.lookup x=some c
 cab:∀ x c,X.fn x=true->X.env.cells.lookup x=some c->X.s₀.heap.objs.size≤c
 hd:X.calm=true->X.A.handled=none
 frames:X.A.frames=some X.stack
 stk:X.stack=X.outer∨(X.stack=X.env::X.outer∧X.env.frame=some X.env.locals)
 exf:∀ b∈X.ex,b≠X.env.locals∧∀ x c,X.env.cells.lookup x=some c->c≠b
 bs:∀ b o,X.base.get? b=some o->X.s₀.heap.get? b=some o∧X.H₀ b=none
 bsz:X.base.objs.size≤X.s₀.heap.objs.size
 noex:∀ b o,X.base.get? b=some o->b∉X.ex
 exfs:∀ b∈X.ex,b∉X.fs
 funs:X.s₀.heap.FunFrames X.base X.outer
 frf:∀ b∈X.fs,X.H₀ b=none
structure Inv (X:Cx) (pins:List (Addr×Obj)) (σ:List (Option V)) (H:Hp) (s:Shared):Prop where
 ok:X.Ok
 os:s.os=X.s₀.os
 bare:AllBare s.gens
 base:Un X.fs X.ex X.H₀ H X.s₀.heap s.heap
 loc:∃ m,s.heap.Ns X.env.locals m∧∀ (i:Nat) (x:Str) (v:V),X.N[i]?=some x->σ[i]?=some (some v)->Vis X.env.scope x->∃ u,RelV v u∧Look X.env s.heap m x u
 cell:∀ x c,X.env.cells.lookup x=some c->∃ v,s.heap.IsCell c v
 free:H X.env.locals=none
 freeC:∀ x c,X.env.cells.lookup x=some c->H c=none
 pin:∀ p∈X.pn++pins,s.heap.get? p.1=some p.2∧H p.1=none∧p.1≠X.env.locals∧p.1∉X.fs∧∀ v,p.2.data≠.cell v
 hok:HOk X.prog X.w H s.heap
 len:σ.length=X.N.length
section
variable {X:Cx}{pins:List (Addr×Obj)}{σ:List (Option V)}{H H':Hp}{s:Shared}{h':Heap}
theorem Cx.Ok.nofr (ok:X.Ok) {b:Addr}{o:Obj} (e:X.base.get? b=some o):b∉X.fs:=fun hb=>by
 have:=(ok.funs.mem hb).1
 rw [e] at this;cases this
theorem Inv.bs (I:Inv X pins σ H s):∀ b o,X.base.get? b=some o->s.heap.get? b=some o∧H b=none:=fun b o e=>
 ⟨I.base.keep b o (I.ok.bs b o e).1 (I.ok.bs b o e).2 (I.ok.nofr e) (I.ok.noex b o e),I.base.free b o (I.ok.bs b o e).1 (I.ok.bs b o e).2 (I.ok.noex b o e)⟩
theorem Inv.bk (I:Inv X pins σ H s):∀ b o,X.base.get? b=some o->s.heap.get? b=some o:=fun b o e=>(I.bs b o e).1
theorem Inv.mod (I:Inv X pins σ H s):Mod X.K X.mg X.base:=I.ok.mod
theorem Inv.kIn (I:Inv X pins σ H s):X.K.In s.heap:=I.ok.mod.kin.keeps I.bk
theorem Inv.lt (I:Inv X pins σ H s):X.env.locals<s.heap.objs.size:=let ⟨_,hn,_⟩:=I.loc;hn.lt
theorem Inv.sz (I:Inv X pins σ H s):X.s₀.heap.objs.size≤s.heap.objs.size:=Nat.le_trans I.ok.above (Nat.le_of_lt I.lt)
theorem Inv.nofs (I:Inv X pins σ H s) {a:Addr} (h:s.heap.objs.size≤a):a∉X.fs:=fun hb=>by
 obtain ⟨_,o,ho,_⟩:=I.ok.funs.mem hb
 exact absurd (Nat.lt_of_lt_of_le (Heap.lt_size ho) (Nat.le_trans I.sz h)) (Nat.lt_irrefl _)
theorem Inv.cne (I:Inv X pins σ H s):∀ x c,X.env.cells.lookup x=some c->c≠X.env.locals:=fun x c e z=>by
 obtain ⟨v,o,ho,hd⟩:=I.cell x c e
 obtain ⟨m,⟨o',es,ep,ho',hd',_⟩,_⟩:=I.loc
 rw [z,ho'] at ho;cases ho;rw [hd'] at hd;cases hd
theorem Inv.funs (I:Inv X pins σ H s):s.heap.FunFrames X.base X.outer:=by
 have all:∀ (l:List Env),(∀ b∈frs l,b∈X.fs)->X.s₀.heap.FunFrames X.base l->s.heap.FunFrames X.base l:=by
  intro l
  induction l with
  | nil=>intro _ _;trivial
  | cons env r ih=>
    intro hs hl
    obtain ⟨hk,⟨L,o,hf,hn,ho,hd⟩,hr⟩:=hl
    have hL:L∈X.fs:=hs L (by unfold frs;rw [List.filterMap_cons,hf];exact List.mem_cons_self)
    obtain ⟨sl,e⟩:=I.base.slot L o ho (I.ok.frf L hL) hL fun z=>I.ok.exfs L z hL
    exact ⟨hk,⟨L,_,hf,hn,e,hd⟩,ih (fun b hb=>hs b (by unfold frs;rw [List.filterMap_cons,hf];exact List.mem_cons_of_mem _ hb)) hr⟩
 exact all X.outer (fun _ hb=>hb) I.ok.funs
theorem Inv.stack (I:Inv X pins σ H s):s.heap.FunFrames X.base X.stack:=by
 rcases I.ok.stk with e | ⟨e,hf⟩
 ·rw [e];exact I.funs
 ·rw [e]
  obtain ⟨m,hn,_⟩:=I.loc
  refine .cons (by rw [I.ok.kind];decide) hf hn ?_ I.funs
  exact Heap.get?_none_of_le (Nat.le_trans I.ok.bsz I.ok.above)
theorem Inv.stkSub (I:Inv X pins σ H s):∀ b∈frs X.stack,b∈X.env.locals::X.fs:=fun b hb=>by
 rcases I.ok.stk with e | ⟨e,hf⟩
 ·rw [e] at hb;exact List.mem_cons_of_mem _ hb
 ·rw [e] at hb
  unfold frs at hb
  rw [List.filterMap_cons,hf] at hb
  exact hb
theorem Inv.stkFree (I:Inv X pins σ H s):∀ b∈frs X.stack,H b=none:=fun b hb=>by
 rcases List.mem_cons.mp (I.stkSub b hb) with e | hb
 ·rw [e];exact I.free
 ·obtain ⟨_,o,ho,_⟩:=I.ok.funs.mem hb
  exact I.base.free b o ho (I.ok.frf b hb) fun z=>I.ok.exfs b z hb
theorem Inv.step {g':Array GenState}{t':Nat}{d':Drawn}{ch:List Addr} (I:Inv X pins σ H s)
  (hch:∀ b∈ch,(b∈X.ex∨X.s₀.heap.objs.size≤b)∧b≠X.env.locals∧(∀ x c,X.env.cells.lookup x=some c->c≠b)∧∀ p∈X.pn++pins,p.1≠b)
  (keep:∀ b o,b≠X.env.locals->b∉X.fs->b∉ch->s.heap.get? b=some o->H b=none->h'.get? b=some o)
  (slot:∀ b o,b≠X.env.locals->b∈X.fs->b∉ch->s.heap.get? b=some o->H b=none->∃ sl,h'.get? b=some { o with slots:=sl }) (free:∀ b o,b∉ch->s.heap.get? b=some o->H b=none->H' b=none)
  (there:∀ b o,b∉ch->s.heap.get? b=some o->∃ o',h'.get? b=some o')
  (tups:∀ b xs,H b=some (.tup xs)->H' b=some (.tup xs)) (frzs:∀ b o u,H b=some (.frz o u)->H' b=some (.frz o u)) (tbls:∀ b ps,H b=some (.tbl ps)->∃ more,H' b=some (.tbl (ps++more)))
  (ns:∀ m,s.heap.Ns X.env.locals m->h'.Ns X.env.locals m) (hok:HOk X.prog X.w H' h') (hg:AllBare g') :
  Inv X pins σ H' { s with heap:=h',gens:=g',drawn:=d',toks:=t' }:=by
 have neL:∀ b o,X.s₀.heap.get? b=some o->b≠X.env.locals:=fun b o e=>Nat.ne_of_lt (Nat.lt_of_lt_of_le (Heap.lt_size e) I.ok.above)
 have neC:∀ b o,X.s₀.heap.get? b=some o->b∉X.ex->b∉ch:=fun b o e hx hb=>by
  rcases (hch b hb).1 with z | z
  ·exact hx z
  ·exact absurd (Nat.lt_of_lt_of_le (Heap.lt_size e) z) (Nat.lt_irrefl _)
 have cellK:∀ x c,X.env.cells.lookup x=some c->∀ v,s.heap.IsCell c v->h'.IsCell c v:=fun x c e v ⟨o,ho,hd⟩=>by
  have nch:c∉ch:=fun z=>(hch c z).2.2.1 x c e rfl
  by_cases hc:c∈X.fs
  ·obtain ⟨sl,q⟩:=slot c o (I.cne x c e) hc nch ho (I.freeC x c e)
   exact ⟨_,q,hd⟩
  ·exact ⟨o,keep c o (I.cne x c e) hc nch ho (I.freeC x c e),hd⟩
 refine ⟨I.ok,I.os,hg,⟨fun b o e n hb hx=>?_,fun b o e n hb hx=>?_,fun b o e n hx=>?_,fun b o e hx=>?_,fun b xs e=>tups b xs (I.base.tups b xs e),fun b o xs e=>frzs b o xs (I.base.frzs b o xs e),fun b ps e=>?_⟩,?_,fun x c e=>?_,?_,fun x c e=>?_,fun p hp=>?_,hok,I.len⟩
 ·exact keep b o (neL b o e) hb (neC b o e hx) (I.base.keep b o e n hb hx) (I.base.free b o e n hx)
 ·obtain ⟨sl,e1⟩:=I.base.slot b o e n hb hx
  obtain ⟨sl',e2⟩:=slot b _ (neL b o e) hb (neC b o e hx) e1 (I.base.free b o e n hx)
  exact ⟨sl',e2⟩
 ·obtain ⟨o',e1⟩:=I.base.there b o e hx
  exact free b o' (neC b o e hx) e1 (I.base.free b o e n hx)
 ·obtain ⟨o',e1⟩:=I.base.there b o e hx
  exact there b o' (neC b o e hx) e1
 ·obtain ⟨m1,e1⟩:=I.base.tbls b ps e
  obtain ⟨m2,e2⟩:=tbls b _ e1
  exact ⟨m1++m2,by rw [e2,Array.append_assoc]⟩
 ·obtain ⟨m,hn,hl⟩:=I.loc
  refine ⟨m,ns m hn,fun i x v e1 e2 e3=>?_⟩
  obtain ⟨u,r,l⟩:=hl i x v e1 e2 e3
  refine ⟨u,r,?_⟩
  rcases l with l | ⟨k,c,e,z⟩
  ·exact .inl l
  ·exact .inr ⟨k,c,e,cellK x c e _ z⟩
 ·obtain ⟨v,z⟩:=I.cell x c e
  exact ⟨v,cellK x c e v z⟩
 ·obtain ⟨m,⟨o,_,_,ho,_⟩,_⟩:=I.loc
  exact free _ o (fun z=>(hch _ z).2.1 rfl) ho I.free
 ·obtain ⟨v,o,ho,hd⟩:=I.cell x c e
  exact free c o (fun z=>(hch c z).2.2.1 x c e rfl) ho (I.freeC x c e)
 ·obtain ⟨e,n,ne,nf,d⟩:=I.pin p hp
  have nch:p.1∉ch:=fun z=>(hch p.1 z).2.2.2 p hp rfl
  exact ⟨keep p.1 p.2 ne nf nch e n,free p.1 p.2 nch e n,ne,nf,d⟩
theorem Inv.un {t':Nat} (I:Inv X pins σ H s) (u:Un X.fs [] H H' s.heap h') (hok:HOk X.prog X.w H' h'):Inv X pins σ H' { s with heap:=h',toks:=t' }:=by
 obtain ⟨m,⟨o,es,ep,ho,r⟩,_⟩:=id I.loc
 obtain ⟨sl,hL⟩:=u.any ho I.free (by simp)
 exact I.step (g':=s.gens) (d':=s.drawn) (ch:=[]) (fun _ z=>nomatch z) (fun b o _ hb _ e n=>u.keep b o e n hb (by simp)) (fun b o _ hb _ e n=>u.slot b o e n hb (by simp)) (fun b o _ e n=>u.free b o e n (by simp)) (fun b o _ e=>u.there b o e (by simp)) u.tups u.frzs u.tbls (fun m' hm=>by
  obtain ⟨o',es',ep',ho',r'⟩:=hm
  rw [ho] at ho';cases ho'
  exact ⟨_,es',ep',hL,r'⟩) hok I.bare
theorem Inv.call {g':Array GenState}{t':Nat}{d':Drawn}{ch:List Addr} (I:Inv X pins σ H s) (u:Un (frs X.stack) ch H H' s.heap h') (hok:HOk X.prog X.w H' h') (hg:AllBare g')
  (hch:∀ b∈ch,(b∈X.ex∨X.s₀.heap.objs.size≤b)∧b≠X.env.locals∧(∀ x c,X.env.cells.lookup x=some c->c≠b)∧∀ p∈X.pn++pins,p.1≠b) :
  Inv X pins σ H' { s with heap:=h',gens:=g',drawn:=d',toks:=t' }:=by
 obtain ⟨m,⟨o,es,ep,ho,r⟩,_⟩:=id I.loc
 obtain ⟨sl,hL⟩:=u.any ho I.free fun z=>(hch _ z).2.1 rfl
 exact I.step (ch:=ch) hch (fun b o hL hb hc e n=>u.keep b o e n (fun z=>(List.mem_cons.mp (I.stkSub b z)).elim hL hb) hc) (fun b o _ _ hc e n=>u.any e n hc) (fun b o hc e n=>u.free b o e n hc) (fun b o hc e=>u.there b o e hc) u.tups u.frzs u.tbls (fun m' hm=>by
  obtain ⟨o',es',ep',ho',r'⟩:=hm
  rw [ho] at ho';cases ho'
  exact ⟨_,es',ep',hL,r'⟩) hok hg
theorem Inv.turned {t':Nat}{it:Addr} (I:Inv X pins σ H s) (k:∀ b o,b≠it->s.heap.get? b=some o->h'.get? b=some o) (hn:H it=none) (hL:it≠X.env.locals)
  (h1:it∈X.ex∨X.s₀.heap.objs.size≤it) (h2:∀ x c,X.env.cells.lookup x=some c->c≠it) (h3:∀ p∈X.pn++pins,p.1≠it):Inv X pins σ H { s with heap:=h',toks:=t' }:=by
 have nit:∀ b u,H b=some u->b≠it:=fun b u e z=>by rw [z,hn] at e;cases e
 refine I.step (g':=s.gens) (d':=s.drawn) (ch:=[it]) (fun b hb=>?_) (fun b o _ _ hc e _=>k b o (fun z=>hc (by simp [z])) e) (fun b o _ _ hc e _=>⟨o.slots,k b o (fun z=>hc (by simp [z])) e⟩) (fun _ _ _ _ n=>n)
  (fun b o hc e=>⟨o,k b o (fun z=>hc (by simp [z])) e⟩) (fun _ _ e=>e) (fun _ _ _ e=>e) (fun b ps e=>⟨#[],by rw [e];simp⟩) (fun m hm=>?_) (fun b u e=>?_) I.bare
 ·have e:b=it:=by simpa using hb
  subst e
  exact ⟨h1,hL,h2,h3⟩
 ·obtain ⟨o,es,ep,ho,r⟩:=hm
  exact ⟨o,es,ep,k _ o (Ne.symm hL) ho,r⟩
 ·refine (I.hok b u e).stay (fun c v hc q=>k c v ?_ q) (fun _ q=>q) fun _ _ q=>q
  rcases hc with z | z
  ·rw [z];exact nit b u e
  ·exact nit c _ z
theorem Inv.tok (I:Inv X pins σ H s) (t:Nat):Inv X pins σ H { s with toks:=t }:=I.un (h':=s.heap) (t':=t) Un.refl I.hok
theorem Inv.kept {t':Nat} (I:Inv X pins σ H s) (k:∀ b u,s.heap.get? b=some u->h'.get? b=some u):Inv X pins σ H { s with heap:=h',toks:=t' }:=I.un (Un.kept k) (I.hok.kept k)
theorem Inv.laid {a:Addr}{o:HO}{t':Nat} (I:Inv X pins σ H s) (k:∀ b u,s.heap.get? b=some u->h'.get? b=some u) (hp:s.heap.objs.size≤a) (new:ObjOk X.prog X.w (upd H a o) h' a o) :
  Inv X pins σ (upd H a o) { s with heap:=h',toks:=t' }:=I.un (Un.laid k hp (I.hok.fresh hp)) (I.hok.laid k hp new)
theorem Inv.write {x e:Addr}{o:HO}{t':Nat} (I:Inv X pins σ H s) (mu:Mut (H x)) (he:e=x∨H e=some (.own x)) (k:∀ b u,b≠e->s.heap.get? b=some u->h'.get? b=some u) (heo:∃ u,h'.get? e=some u)
  (new:ObjOk X.prog X.w (upd H x o) h' x o):Inv X pins σ (upd H x o) { s with heap:=h',toks:=t' }:=I.un (Un.write mu he k heo) (I.hok.write mu he k heo new)
theorem Inv.pins_of {pins':List (Addr×Obj)} (I:Inv X pins σ H s) (h:∀ p∈pins',s.heap.get? p.1=some p.2∧H p.1=none∧p.1≠X.env.locals∧p.1∉X.fs∧∀ v,p.2.data≠.cell v):Inv X pins' σ H s:=
 ⟨I.ok,I.os,I.bare,I.base,I.loc,I.cell,I.free,I.freeC,fun p hp=>(List.mem_append.mp hp).elim (fun z=>I.pin p (List.mem_append_left _ z)) (h p),I.hok,I.len⟩
theorem nodup_ix {N:List Str} (hN:N.Nodup) {i j:Nat}{x:Str} (a:N[i]?=some x) (b:N[j]?=some x):i=j:=by
 obtain ⟨h1,e1⟩:=List.getElem?_eq_some_iff.mp a
 obtain ⟨h2,e2⟩:=List.getElem?_eq_some_iff.mp b
 exact (List.getElem_inj hN).mp (e1.trans e2.symm)
theorem store_ok2 {M:Model}{A:Around}{E:Value->Shared->Prop}{i:Nat}{x:Str}{v:V}{u:Value}{Q:Unit->Shared->Prop} (I:Inv X pins σ H s) (hN:X.N.Nodup) (hi:X.N[i]?=some x) (hx:Loc X.env.scope x) (r:RelV v u)
  (h:∀ s',Inv X pins (σ.set i (some v)) H s'->(∃ a,Heap.SameBut a s.heap s'.heap∧(a=X.env.locals∨X.env.cells.lookup x=some a))->Q () s') (hf:X.fn x=true∨X.env.scope.names.lookup x=some .local:=by first | exact .inl rfl | exact .inr rfl | assumption):wpAny M A (storeName X.env x u) Q E s:=by
 obtain ⟨m,hn,hl⟩:=id I.loc
 have hcls:(X.env.scope.kind == .class || (X.env.scope.kind == .module && X.env.locals != X.env.globals))=false:=by rw [I.ok.kind];rfl
 have hiσ:i<σ.length:=by rw [I.len];exact (List.getElem?_eq_some_iff.mp hi).1
 have cne:=I.cne
 have tracked:∀ {a:Addr}{h':Heap},(∃ o,s.heap.get? a=some o∧H a=none)->Heap.SameBut a s.heap h'->HOk X.prog X.w H h':=fun {a h'} ha hs b ob e=>by
  obtain ⟨_,_,hfree⟩:=ha
  refine (I.hok b ob e).stay (fun c w' hc q=>(hs.2 c ?_).trans q) (fun _ q=>q) fun _ _ q=>q
  rintro rfl
  rcases hc with rfl | hc
  ·rw [hfree] at e;cases e
  ·rw [hfree] at hc;cases hc
 rcases hx with hk | hk
 ·refine wpAny_storeName_local hk hn (fun h' hn' hs=>?_) hcls
  obtain ⟨oL,_,_,hoL,_⟩:=id hn
  refine h _ ⟨I.ok,I.os,I.bare,⟨fun b o e n hb hx=>?_,fun b o e n hb hx=>?_,I.base.free,fun b o e hx=>?_,I.base.tups,I.base.frzs,I.base.tbls⟩,⟨_,hn',fun j y v' e1 e2 e3=>?_⟩,fun y c e=>?_,I.free,I.freeC,fun p hp=>?_,tracked ⟨oL,hoL,I.free⟩ hs,by simpa using I.len⟩ ⟨_,hs,.inl rfl⟩
  ·exact (hs.2 b (Nat.ne_of_lt (Nat.lt_of_lt_of_le (Heap.lt_size e) I.ok.above))).trans (I.base.keep b o e n hb hx)
  ·obtain ⟨sl,e1⟩:=I.base.slot b o e n hb hx
   exact ⟨sl,(hs.2 b (Nat.ne_of_lt (Nat.lt_of_lt_of_le (Heap.lt_size e) I.ok.above))).trans e1⟩
  ·obtain ⟨o',e1⟩:=I.base.there b o e hx
   exact ⟨o',(hs.2 b (Nat.ne_of_lt (Nat.lt_of_lt_of_le (Heap.lt_size e) I.ok.above))).trans e1⟩
  ·by_cases hj:j=i
   ·subst hj
    rw [hi] at e1;cases e1
    rw [List.getElem?_set_self hiσ] at e2
    cases e2
    exact ⟨u,r,.inl ⟨hk,by simp⟩⟩
   ·rw [List.getElem?_set_ne (Ne.symm hj)] at e2
    obtain ⟨u',r',q⟩:=hl j y v' e1 e2 e3
    refine ⟨u',r',?_⟩
    rcases q with ⟨k,e⟩ | ⟨k,c,e,z⟩
    ·refine .inl ⟨k,?_⟩
     have:y≠x:=fun e=>hj (nodup_ix hN e1 (e ▸ hi))
     simp [this,e]
    ·exact .inr ⟨k,c,e,z.sameBut hs (cne y c e)⟩
  ·obtain ⟨w',z⟩:=I.cell y c e
   exact ⟨w',z.sameBut hs (cne y c e)⟩
  ·obtain ⟨e,n,ne,nf,d⟩:=I.pin p hp
   exact ⟨(hs.2 p.1 ne).trans e,n,ne,nf,d⟩
 ·have hfn:X.fn x=true:=by
   rcases hf with z | z
   ·exact z
   ·rw [z] at hk;cases hk
  obtain ⟨c,hc⟩:=I.ok.has x (.inl hk)
  obtain ⟨w',z⟩:=I.cell x c hc
  refine wpAny_storeName_cell I.ok.kind hk hc z (fun h' hc' hs=>?_)
  obtain ⟨oc,hoc,hocd⟩:=id z
  refine h { s with heap:=h' } ⟨I.ok,I.os,I.bare,⟨fun b o e n hb hx=>?_,fun b o e n hb hx=>?_,I.base.free,fun b o e hx=>?_,I.base.tups,I.base.frzs,I.base.tbls⟩,⟨m,hn.sameBut hs (Ne.symm (cne x c hc)),fun j y v' e1 e2 e3=>?_⟩,fun y c' e=>?_,I.free,I.freeC,fun p hp=>?_,tracked ⟨oc,hoc,I.freeC x c hc⟩ hs,by simpa using I.len⟩ ⟨c,hs,.inr hc⟩
  ·exact (hs.2 b (Nat.ne_of_lt (Nat.lt_of_lt_of_le (Heap.lt_size e) (I.ok.cab x c hfn hc)))).trans (I.base.keep b o e n hb hx)
  ·obtain ⟨sl,e1⟩:=I.base.slot b o e n hb hx
   exact ⟨sl,(hs.2 b (Nat.ne_of_lt (Nat.lt_of_lt_of_le (Heap.lt_size e) (I.ok.cab x c hfn hc)))).trans e1⟩
  ·obtain ⟨o',e1⟩:=I.base.there b o e hx
   exact ⟨o',(hs.2 b (Nat.ne_of_lt (Nat.lt_of_lt_of_le (Heap.lt_size e) (I.ok.cab x c hfn hc)))).trans e1⟩
  ·by_cases hj:j=i
   ·subst hj
    rw [hi] at e1;cases e1
    rw [List.getElem?_set_self hiσ] at e2
    cases e2
    exact ⟨u,r,.inr ⟨.inl hk,c,hc,hc'⟩⟩
   ·rw [List.getElem?_set_ne (Ne.symm hj)] at e2
    obtain ⟨u',r',q⟩:=hl j y v' e1 e2 e3
    refine ⟨u',r',?_⟩
    rcases q with q | ⟨k,c',e,z'⟩
    ·exact .inl q
    ·refine .inr ⟨k,c',e,z'.sameBut hs ?_⟩
     rintro rfl
     exact hj (nodup_ix hN e1 (I.ok.inj _ _ _ e hc ▸ hi))
  ·by_cases hcc:c'=c
   ·subst hcc;exact ⟨_,hc'⟩
   ·obtain ⟨w2,z2⟩:=I.cell y c' e
    exact ⟨w2,z2.sameBut hs hcc⟩
  ·obtain ⟨e,n,ne,nf,d⟩:=I.pin p hp
   refine ⟨(hs.2 p.1 ?_).trans e,n,ne,nf,d⟩
   intro q
   rw [q,hoc] at e
   have q':oc=p.2:=Option.some.inj e
   exact d w' (by rw [←q'];exact hocd)
theorem store_ok {M:Model}{A:Around}{E:Value->Shared->Prop}{i:Nat}{x:Str}{v:V}{u:Value}{Q:Unit->Shared->Prop} (I:Inv X pins σ H s) (hN:X.N.Nodup) (hi:X.N[i]?=some x) (hx:Loc X.env.scope x) (r:RelV v u)
  (h:∀ s',Inv X pins (σ.set i (some v)) H s'->Q () s') (hf:X.fn x=true∨X.env.scope.names.lookup x=some .local:=by first | exact .inl rfl | exact .inr rfl | assumption):wpAny M A (storeName X.env x u) Q E s:=
 store_ok2 I hN hi hx r (fun s' I' _=>h s' I') hf
theorem Inv.call' {s':Shared}{ch:List Addr} (I:Inv X pins σ H s) (ho:s'.os=s.os) (u:Un (frs X.stack) ch H H' s.heap s'.heap) (hok:HOk X.prog X.w H' s'.heap) (hg:AllBare s'.gens)
  (hch:∀ b∈ch,(b∈X.ex∨X.s₀.heap.objs.size≤b)∧b≠X.env.locals∧(∀ x c,X.env.cells.lookup x=some c->c≠b)∧∀ p∈X.pn++pins,p.1≠b):Inv X pins σ H' s':=by
 obtain ⟨h',g',d',t',o'⟩:=s'
 have e:o'=s.os:=ho
 subst e
 exact I.call (g':=g') (t':=t') (d':=d') u hok hg hch
end
abbrev XK:=Value->Option Addr->Hp->Prop
abbrev St:=List (Option V)
abbrev VK:=V->Hp->Prop
abbrev TE:=St->Hp->VK->Prop
abbrev TT:=St->Hp->(Bool->Hp->Prop)->Prop
abbrev TA:=St->Hp->(List V->Hp->Prop)->Prop
structure Ends where
 nx:St->Hp->Prop
 rt:VK
 bk:St->Hp->Prop:=fun _ _=>False
 ct:St->Hp->Prop:=fun _ _=>False
abbrev TS:=Ends->St->Hp->Prop
def EP (X:Cx) (pins:List (Addr×Obj)) (σ:St) (Q:VK) (u:Value) (s':Shared):Prop:=∃ v H',Inv X pins σ H' s'∧RelV v u∧Q v H'
def TP (X:Cx) (pins:List (Addr×Obj)) (σ:St) (Q:Bool->Hp->Prop) (b:Bool) (s':Shared):Prop:=∃ H',Inv X pins σ H' s'∧Q b H'
def AP (X:Cx) (pins:List (Addr×Obj)) (σ:St) (Q:List V->Hp->Prop) (us:List Value) (s':Shared):Prop:=∃ vs H',Inv X pins σ H' s'∧Vals vs us∧Q vs H'
def SP (X:Cx) (pins:List (Addr×Obj)) (D:Ends) (f:Flow) (s':Shared):Prop:=
 match f with
 | .next=>∃ σ' H',Inv X pins σ' H' s'∧D.nx σ' H'
 | .brk=>∃ σ' H',Inv X pins σ' H' s'∧D.bk σ' H'
 | .cont=>∃ σ' H',Inv X pins σ' H' s'∧D.ct σ' H'
 | .ret u=>∃ v σ' H',Inv X pins σ' H' s'∧RelV v u∧D.rt v H'
def PE (X:Cx) (e:Expr) (t:TE):Prop:=
 ∀ (pins:List (Addr×Obj)) (s:Shared) (σ:St) (H:Hp) (Q:VK),Inv X pins σ H s->t σ H Q->wpAny (model X.prog X.w) X.A (eval e X.env) (EP X pins σ Q) X.xe s
def PT (X:Cx) (e:Expr) (t:TT):Prop:=
 ∀ (pins:List (Addr×Obj)) (s:Shared) (σ:St) (H:Hp) (Q:Bool->Hp->Prop),Inv X pins σ H s->t σ H Q->wpAny (model X.prog X.w) X.A (isTrue e X.env (eval e X.env)) (TP X pins σ Q) X.xe s
def PW (X:Cx) (e:Expr) (t:TT):Prop:=
 ∀ (whole:Sem Value) (pins:List (Addr×Obj)) (s:Shared) (σ:St) (H:Hp) (Q:Bool->Hp->Prop),Inv X pins σ H s->t σ H Q->wpAny (model X.prog X.w) X.A (isTrue e X.env whole) (TP X pins σ Q) X.xe s
theorem PW.pt {X:Cx}{e:Expr}{t:TT} (h:PW X e t):PT X e t:=h _
def PA (X:Cx) (es:List Expr) (t:TA):Prop:=
 ∀ (pos:Pos) (pins:List (Addr×Obj)) (s:Shared) (σ:St) (H:Hp) (Q:List V->Hp->Prop),Inv X pins σ H s->t σ H Q->wpAny (model X.prog X.w) X.A (spliced (backTo pos (starEach es X.env))) (AP X pins σ Q) X.xe s
def PS (X:Cx) (st:Stmt) (t:TS):Prop:=
 ∀ (pins:List (Addr×Obj)) (s:Shared) (σ:St) (H:Hp) (D:Ends),Inv X pins σ H s->t D σ H->wpAny (model X.prog X.w) X.A (exec st X.env) (SP X pins D) X.xe s
def PSs (X:Cx) (st:List Stmt) (t:TS):Prop:=
 ∀ (pins:List (Addr×Obj)) (s:Shared) (σ:St) (H:Hp) (D:Ends),Inv X pins σ H s->t D σ H->wpAny (model X.prog X.w) X.A (execs st X.env) (SP X pins D) X.xe s
theorem thn {α:Type}{t:Sem α}{Q Q':α->Shared->Prop}{M:Model}{A:Around}{E:Value->Shared->Prop}{s:Shared} (h:wpAny M A t Q E s) (hQ:∀ a s,Q a s->Q' a s):wpAny M A t Q' E s:=wpAny_mono h hQ fun _ _ x=>x
open PySem PySem.Spec PyProof.Rows
section
variable {X:Cx}
theorem bin {a b:Expr}{ta tb:TE} (ha:PE X a ta) (hb:PE X b tb) {pins:List (Addr×Obj)}{s:Shared}{σ:St}{H:Hp}{R:V->V->Hp->Prop} (I:Inv X pins σ H s) (h:ta σ H fun x H1=>tb σ H1 fun y H2=>R x y H2)
  {α:Type}{Q:α->Shared->Prop}{f:Value->Value->Sem α}
  (hf:∀ v u s2 x y H2,Inv X pins σ H2 s2->RelV x v->RelV y u->R x y H2->wpAny (model X.prog X.w) X.A (f v u) Q X.xe s2) :
  wpAny (model X.prog X.w) X.A (eval a X.env) (fun v s₁=>wpAny (model X.prog X.w) X.A (eval b X.env) (fun u s₂=>wpAny (model X.prog X.w) X.A (f v u) Q X.xe s₂) X.xe s₁) X.xe s:=by
 refine thn (ha pins s σ H _ I h) fun v s1 ⟨x,H1,I1,r1,q1⟩=>?_
 refine thn (hb pins s1 σ H1 _ I1 q1) fun u s2 ⟨y,H2,I2,r2,q2⟩=>?_
 exact hf v u s2 x y H2 I2 r1 r2 q2
def tVar (i:Nat):TE:=fun σ H Q=>∃ v,σ[i]?=some (some v)∧Q v H
def tC (v:V):TE:=fun _ H Q=>Q v H
theorem pe_var {i:Nat}{x:Str}{pos:Pos} (hN:X.N[i]?=some x) (hv:Vis X.env.scope x) (hd:(x == ("__debug__":Str))=false:=by decide) (hcd:(x == ("__classdict__":Str))=false:=by decide):PE X (.Name x pos) (tVar i):=by
 intro pins s σ H Q I h
 obtain ⟨v,e,h⟩:=h
 obtain ⟨m,hn,hl⟩:=I.loc
 obtain ⟨u,r,l⟩:=hl i x v hN e hv
 have fin:EP X pins σ Q u s:=⟨v,H,I,r,h⟩
 rcases l with ⟨hk,hm⟩ | ⟨hk,c,hc,hcell⟩
 ·exact wpAny_Name (wpAny_loadName_local I.ok.kind hk hn hm fin) hd
 ·rcases hk with hk | hk
  ·exact wpAny_Name (wpAny_loadName_cell I.ok.kind hk hc hcell fin) hd
  ·exact wpAny_Name (wpAny_loadName_free I.ok.kind hk hc hcell fin hcd) hd
theorem pe_int {i j pos}:PE X (.Constant (.int i) j pos) (tC (.int i)):=fun _ _ _ H _ I h=>wpAny_Constant_int ⟨.int i,H,I.tok _,⟨_,rfl⟩,h⟩
theorem pe_bl {b j pos}:PE X (.Constant (.bool b) j pos) (tC (.bl b)):=fun _ _ _ H _ I h=>Constant_bool ⟨.bl b,H,I,rfl,h⟩
def Gl (X:Cx) (x:Str):Prop:=X.env.kindOf x=some .globalImplicit
theorem ld_glob {E:Value->Shared->Prop}{pins:List (Addr×Obj)}{s:Shared}{σ:St}{H:Hp}{x:Str}{u:Value}{pos:Pos}{Q:Value->Shared->Prop} (I:Inv X pins σ H s) (hg:Gl X x) (hm:X.mg x=some u) (h:Q u s)
  (hd:(x == ("__debug__":Str))=false:=by decide):wpAny (model X.prog X.w) X.A (eval (.Name x pos) X.env) Q E s:=
 Calls.Name_function_global I.ok.kind hg (Calls.loadGlobal_global (by rw [I.ok.glob];exact I.mod.glob.keeps I.bk) hm h) hd
theorem ld_blt {E:Value->Shared->Prop}{pins:List (Addr×Obj)}{s:Shared}{σ:St}{H:Hp}{x:Str}{u:Value}{pos:Pos}{Q:Value->Shared->Prop} (I:Inv X pins σ H s) (hg:Gl X x) (hm:X.mg x=none) (hv:bootBuiltins x=some u) (h:Q u s)
  (hn:x≠"__name__":=by decide) (hd:(x == ("__debug__":Str))=false:=by decide):wpAny (model X.prog X.w) X.A (eval (.Name x pos) X.env) Q E s:=by
 obtain ⟨mb,h1,h2⟩:=I.mod.blt
 exact Calls.Name_function_global I.ok.kind hg (Calls.loadGlobal_builtin (by rw [I.ok.glob];exact I.mod.glob.keeps I.bk) hm (by rw [I.ok.blt];exact h1.keeps I.bk) ((h2 x hn).trans hv) h) hd
theorem pe_glob {x:Str}{v:V}{u:Value}{pos:Pos} (hg:Gl X x) (hm:X.mg x=some u) (r:RelV v u) (hd:(x == ("__debug__":Str))=false:=by decide):PE X (.Name x pos) (tC v):=
 fun _ _ _ H _ I h=>ld_glob I hg hm ⟨v,H,I,r,h⟩ hd
theorem pe_bltn {x:Str}{v:V}{u:Value}{pos:Pos} (hg:Gl X x) (hm:X.mg x=none) (hv:bootBuiltins x=some u) (r:RelV v u) (hn:x≠"__name__":=by decide) (hd:(x == ("__debug__":Str))=false:=by decide):PE X (.Name x pos) (tC v):=
 fun _ _ _ H _ I h=>ld_blt I hg hm hv ⟨v,H,I,r,h⟩ hn hd
variable {a b:Expr}{ta tb:TE}{pos:Pos}
variable {tA tB':TT}{rest:List Expr}
def tAnd (t u:TT):TT:=fun σ H Q=>t σ H fun c H1=>if c=true then u σ H1 Q else Q false H1
def tOr (t u:TT):TT:=fun σ H Q=>t σ H fun c H1=>if c=true then Q true H1 else u σ H1 Q
def tNot (t:TT):TT:=fun σ H Q=>t σ H fun c H1=>Q (!c) H1
theorem pw_and1 (ha:PT X a tA):PW X (.BoolOp .And [a] pos) tA:=by
 intro wh pins s σ H Q I h
 refine isTrue_and (thn (ha pins s σ H Q I h) fun c s1 e=>?_)
 cases c with
 | true=>exact isTrue_and_nil e
 | false=>exact e
theorem pw_or1 (ha:PT X a tA):PW X (.BoolOp .Or [a] pos) tA:=by
 intro wh pins s σ H Q I h
 refine isTrue_or (thn (ha pins s σ H Q I h) fun c s1 e=>?_)
 cases c with
 | false=>exact isTrue_or_nil e
 | true=>exact e
theorem pw_and (ha:PT X a tA) (hb:PW X (.BoolOp .And (b::rest) pos) tB'):PW X (.BoolOp .And (a::b::rest) pos) (tAnd tA tB'):=by
 intro wh pins s σ H Q I h
 refine isTrue_and (thn (ha pins s σ H _ I h) fun c s1 ⟨H1,I1,q1⟩=>?_)
 cases c with
 | true=>exact hb wh pins s1 σ H1 Q I1 q1
 | false=>exact ⟨H1,I1,q1⟩
theorem pw_or (ha:PT X a tA) (hb:PW X (.BoolOp .Or (b::rest) pos) tB'):PW X (.BoolOp .Or (a::b::rest) pos) (tOr tA tB'):=by
 intro wh pins s σ H Q I h
 refine isTrue_or (thn (ha pins s σ H _ I h) fun c s1 ⟨H1,I1,q1⟩=>?_)
 cases c with
 | true=>exact ⟨H1,I1,q1⟩
 | false=>exact hb wh pins s1 σ H1 Q I1 q1
theorem pt_not (ha:PT X a tA):PT X (.UnaryOp .Not a pos) (tNot tA):=by
 intro pins s σ H Q I h
 exact isTrue_not (ha pins s σ H (fun c H1=>Q (!c) H1) I h)
def tAndV (ta tb:TE):TE:=fun σ H Q=>ta σ H fun x H1=>∃ c,x=.bl c∧if c=true then tb σ H1 Q else Q (.bl false) H1
def tNotV (ta:TE):TE:=fun σ H Q=>ta σ H fun x H1=>∃ c,x=.bl c∧Q (.bl (!c)) H1
theorem pe_one {op}{t:TE} (h:PE X a t):PE X (.BoolOp op [a] pos) t:=fun pins s σ H Q I hw=>BoolOp_one (h pins s σ H Q I hw)
theorem pe_and (ha:PE X a ta) (hb:PE X (.BoolOp .And (b::rest) pos) tb):PE X (.BoolOp .And (a::b::rest) pos) (tAndV ta tb):=by
 intro pins s σ H Q I h
 refine BoolOp_and (thn (ha pins s σ H _ I h) fun v s1 ⟨x,H1,I1,r1,q1⟩=>?_)
 obtain ⟨c,rfl,q1⟩:=q1
 cases r1
 refine wpAny_truthy_bool ?_
 cases c with
 | true=>exact hb pins s1 σ H1 Q I1 q1
 | false=>exact ⟨.bl false,H1,I1,rfl,q1⟩
theorem pe_not (ha:PE X a ta):PE X (.UnaryOp .Not a pos) (tNotV ta):=by
 intro pins s σ H Q I h
 refine UnaryOp_ (thn (ha pins s σ H _ I h) fun v s1 ⟨x,H1,I1,r1,q1⟩=>?_)
 obtain ⟨c,rfl,q1⟩:=q1
 cases r1
 exact not_of (wpAny_truthy_bool ⟨.bl (!c),H1,I1,rfl,q1⟩)
end
open PySem PySem.Spec PyProof.Rows
def SqL (K:PySem.W.Frag) (H:Hp) (a:Addr) (xs:List V):Prop:=
 Rd H a (.lst xs) ∨
  ∃ (o:Obj) (its:Array Value) (n:Nat),K.lookup a=some o∧o.cls=.type "list"∧o.dict=none∧o.data=.seq its n∧its.size≤sizeLine∧Vals xs its.toList
def SqT (K:PySem.W.Frag) (H:Hp) (a:Addr) (xs:List V):Prop:=
 Rd H a (.tup xs) ∨
  ∃ (o:Obj) (its:Array Value) (n:Nat),K.lookup a=some o∧o.cls=.type "tuple"∧o.data=.seq its n∧its.size≤sizeLine∧Vals xs its.toList
def absV:Value->Option V
 | .none=>some .non
 | .bool b=>some (.bl b)
 | .int i _=>some (.int i)
 | .str x _=>some (.str x)
 | .bytes b _=>some (.byt b)
 | .float b _=>some (.flt b)
 | .ref a=>some (.ref a)
 | .type n=>some (.ty n)
 | _=>none
theorem RelV.abs {x:V}{u:Value} (r:RelV x u):absV u=some x:=by
 cases x with
 | non=>cases r;rfl
 | bl _=>cases r;rfl
 | int _=>obtain ⟨t,rfl⟩:=r;rfl
 | str _=>obtain ⟨t,rfl⟩:=r;rfl
 | byt _=>obtain ⟨t,rfl⟩:=r;rfl
 | flt _=>obtain ⟨t,rfl⟩:=r;rfl
 | ref _=>cases r;rfl
 | ty _=>cases r;rfl
theorem RelV.inj {x y:V}{u:Value} (r:RelV x u) (q:RelV y u):x=y:=Option.some.inj (r.abs.symm.trans q.abs)
theorem Vals.inj:∀ {xs ys:List V}{us:List Value},Vals xs us->Vals ys us->xs=ys
 | _,_,_,.nil,.nil=>rfl
 | _,_,_,.cons r t,.cons r' t'=>by rw [r.inj r',Vals.inj t t']
section
variable {X:Cx}{pins:List (Addr×Obj)}{σ:St}{H:Hp}{s:Shared}{a:Addr}{xs ys:List V}
theorem SqL.of {K:PySem.W.Frag} (h:H a=some (.lst xs)):SqL K H a xs:=.inl (.inl h)
theorem SqT.of {K:PySem.W.Frag} (h:H a=some (.tup xs)):SqT K H a xs:=.inl (.inl h)
theorem Inv.list (I:Inv X pins σ H s) (h:SqL X.K H a xs):∃ its:List Value,Vals xs its∧PlainL s.heap a its.toArray∧xs.length≤sizeLine:=by
 rcases h with h | ⟨o,its,n,hk,hc,hd,hs,hz,r⟩
 ·obtain ⟨z,its,n,r,e⟩:=h.ok I.hok
  exact ⟨its,r,⟨_,n,e,rfl,rfl,rfl⟩,z⟩
 ·refine ⟨its.toList,r,⟨o,n,I.kIn a o hk,hc,hd,by simpa using hs⟩,?_⟩
  have e:=r.length
  simp only [Array.length_toList] at e
  omega
theorem Inv.tuple (I:Inv X pins σ H s) (h:SqT X.K H a xs):∃ its:List Value,Vals xs its∧IsTup s.heap a its.toArray∧xs.length≤sizeLine:=by
 rcases h with h | ⟨o,its,n,hk,hc,hs,hz,r⟩
 ·obtain ⟨z,its,r,p⟩:=h.ok I.hok
  exact ⟨its,r,p,z⟩
 ·refine ⟨its.toList,r,⟨o,I.kIn a o hk,hc,n,by simpa using hs⟩,?_⟩
  have e:=r.length
  simp only [Array.length_toList] at e
  omega
theorem Inv.list_inj (I:Inv X pins σ H s) (h:SqL X.K H a xs) (h':SqL X.K H a ys):xs=ys:=by
 obtain ⟨its,r,⟨o,n,e,_,_,d⟩,_⟩:=I.list h
 obtain ⟨its',r',⟨o',n',e',_,_,d'⟩,_⟩:=I.list h'
 rw [e] at e';cases e'
 rw [d] at d'
 injection d' with d1 _
 have:its=its':=by simpa using congrArg Array.toList d1
 subst this
 exact r.inj r'
theorem Inv.tuple_inj (I:Inv X pins σ H s) (h:SqT X.K H a xs) (h':SqT X.K H a ys):xs=ys:=by
 obtain ⟨its,r,⟨o,e,_,n,d⟩,_⟩:=I.tuple h
 obtain ⟨its',r',⟨o',e',_,n',d'⟩,_⟩:=I.tuple h'
 rw [e] at e';cases e'
 rw [d] at d'
 injection d' with d1 _
 have:its=its':=by simpa using congrArg Array.toList d1
 subst this
 exact r.inj r'
end
abbrev Cx.wish (X:Cx) (E:Value->Shared->Prop):Cx:={ X with xe:=E }
abbrev Cx.nox (X:Cx):Cx:=X.wish fun _ _=>False
theorem Cx.Ok.wish {X:Cx} (ok:X.Ok) (E:Value->Shared->Prop):(X.wish E).Ok:=
 ⟨ok.mod,ok.kind,ok.glob,ok.blt,ok.above,ok.inj,ok.has,ok.cab,ok.hd,ok.frames,ok.stk,ok.exf,ok.bs,ok.bsz,ok.noex,ok.exfs,ok.funs,ok.frf⟩
theorem Cx.Ok.unwish {X:Cx}{E:Value->Shared->Prop} (ok:(X.wish E).Ok):X.Ok:=
 ⟨ok.mod,ok.kind,ok.glob,ok.blt,ok.above,ok.inj,ok.has,ok.cab,ok.hd,ok.frames,ok.stk,ok.exf,ok.bs,ok.bsz,ok.noex,ok.exfs,ok.funs,ok.frf⟩
section
variable {X:Cx}{pins:List (Addr×Obj)}{σ:St}{H:Hp}{s:Shared}{E:Value->Shared->Prop}
theorem Inv.wish (I:Inv X pins σ H s) (E:Value->Shared->Prop):Inv (X.wish E) pins σ H s:=⟨I.ok.wish E,I.os,I.bare,I.base,I.loc,I.cell,I.free,I.freeC,I.pin,I.hok,I.len⟩
theorem Inv.unwish (I:Inv (X.wish E) pins σ H s):Inv X pins σ H s:=⟨I.ok.unwish,I.os,I.bare,I.base,I.loc,I.cell,I.free,I.freeC,I.pin,I.hok,I.len⟩
theorem SP.unwish {D:Ends}{f:Flow}{s':Shared} (h:SP (X.wish E) pins D f s'):SP X pins D f s':=by
 cases f with
 | next=>obtain ⟨σ',H',I,q⟩:=h;exact ⟨σ',H',I.unwish,q⟩
 | brk=>obtain ⟨σ',H',I,q⟩:=h;exact ⟨σ',H',I.unwish,q⟩
 | cont=>obtain ⟨σ',H',I,q⟩:=h;exact ⟨σ',H',I.unwish,q⟩
 | ret u=>obtain ⟨v,σ',H',I,r,q⟩:=h;exact ⟨v,σ',H',I.unwish,r,q⟩
theorem PSs.nox {st:List Stmt}{t:TS} (h:PSs X.nox st t):PSs X st t:=fun pins s σ H D I hw=>
 wpAny_mono (h pins s σ H D (I.wish _) hw) (fun _ _ q=>q.unwish) fun _ _ z=>False.elim z
end
section
variable {X:Cx}{st:Stmt}{rest:List Stmt}{t u:TS}{e:Expr}{te:TE}{pos:Pos}
def tNext:TS:=fun D σ H=>D.nx σ H
def tSeq (t u:TS):TS:=fun D σ H=>t { D with nx:=u D } σ H
theorem pss_nil:PSs X [] tNext:=fun _ _ σ H _ I h=>wpAny_execs_nil ⟨σ,H,I,h⟩
theorem pss_cons (h1:PS X st t) (h2:PSs X rest u):PSs X (st::rest) (tSeq t u):=by
 intro pins s σ H D I h
 refine wpAny_execs_cons (thn (h1 pins s σ H { D with nx:=u D } I h) fun f s1 q=>?_)
 cases f with
 | next=>
   obtain ⟨σ',H',I',q⟩:=q
   exact h2 pins s1 σ' H' D I' q
 | ret v=>exact q
 | brk=>exact q
 | cont=>exact q
theorem pss_one (h1:PS X st t):PSs X [st] t:=by
 intro pins s σ H D I h
 refine wpAny_execs_cons (thn (h1 pins s σ H D I h) fun f s1 q=>?_)
 cases f with
 | next=>exact wpAny_execs_nil q
 | ret v=>exact q
 | brk=>exact q
 | cont=>exact q
theorem Inv.quiet {pins:List (Addr×Obj)}{σ:St}{H:Hp}{s:Shared} (I:Inv X pins σ H s):interactive X.env=false:=by simp [interactive,I.ok.kind]
def tDrop (te:TE):TS:=fun D σ H=>te σ H fun _ H1=>D.nx σ H1
theorem ps_expr (he:PE X e te) (hs:swapsWith e none pos.line X.env=pure false:=by rfl):PS X (.Expr e pos) (tDrop te):=by
 intro pins s σ H D I h
 exact wpAny_Expr_any (thn (he pins s σ H _ I h) fun v s1 ⟨x,H1,I1,r1,q1⟩=>⟨σ,H1,I1,q1⟩) I.quiet hs
def tRet (te:TE):TS:=fun D σ H=>te σ H D.rt
theorem ps_ret (he:PE X e te):PS X (.Return (some e) pos) (tRet te):=by
 intro pins s σ H D I h
 exact wpAny_Return_some (thn (he pins s σ H _ I h) fun v s1 ⟨x,H1,I1,r1,q1⟩=>⟨x,σ,H1,I1,r1,q1⟩)
def tIfS (c:TT) (t u:TS):TS:=fun D σ H=>c σ H fun b H1=>if b=true then t D σ H1 else u D σ H1
theorem ps_if {c:Expr}{a b:List Stmt}{tc:TT} (hc:PT X c tc) (ha:PSs X a t) (hb:PSs X b u):PS X (.If c a b pos) (tIfS tc t u):=by
 intro pins s σ H D I h
 refine wpAny_If (thn (hc pins s σ H _ I h) fun d s1 ⟨H1,I1,q1⟩=>?_)
 cases d with
 | true=>exact ha pins s1 σ H1 D I1 q1
 | false=>exact hb pins s1 σ H1 D I1 q1
end
abbrev TG:=V->St->Hp->(St->Hp->Prop)->Prop
abbrev TGs:=List V->St->Hp->(St->Hp->Prop)->Prop
def PG (X:Cx) (target:Expr) (t:TG):Prop:=
 ∀ (pins:List (Addr×Obj)) (s:Shared) (σ:St) (H:Hp) (v:V) (u:Value) (Q:St->Hp->Prop),Inv X pins σ H s->RelV v u->t v σ H Q->
   wpAny (model X.prog X.w) X.A (assign target X.env u) (fun _ s'=>∃ σ' H',Inv X pins σ' H' s'∧Q σ' H') X.xe s
def PGs (X:Cx) (ts:List Expr) (t:TGs):Prop:=
 ∀ (pins:List (Addr×Obj)) (s:Shared) (σ:St) (H:Hp) (vs:List V) (us:List Value) (Q:St->Hp->Prop),Inv X pins σ H s->Vals vs us->t vs σ H Q->
   wpAny (model X.prog X.w) X.A (assignInOrder ((assignEach ts X.env).map (·.2)) us) (fun _ s'=>∃ σ' H',Inv X pins σ' H' s'∧Q σ' H') X.xe s
abbrev TSet:=V->V->V->Hp->(Hp->Prop)->Prop
def PSet (X:Cx) (t:TSet):Prop:=
 ∀ (pins:List (Addr×Obj)) (s:Shared) (σ:St) (H:Hp) (o i v:V) (ov iv u:Value) (Q:Hp->Prop),Inv X pins σ H s->RelV o ov->RelV i iv->RelV v u->t o i v H Q->
   wpAny (model X.prog X.w) X.A (setItem ov iv u) (fun _ s'=>∃ H',Inv X pins σ H' s'∧Q H') X.xe s
abbrev TIp:=V->V->Hp->VK->Prop
def PIp (X:Cx) (op:Operator) (t:TIp):Prop:=
 ∀ (pins:List (Addr×Obj)) (s:Shared) (σ:St) (H:Hp) (x y:V) (v u:Value) (Q:VK),Inv X pins σ H s->RelV x v->RelV y u->t x y H Q->
   wpAny (model X.prog X.w) X.A (inplaceOp op v u) (EP X pins σ Q) X.xe s
section
variable {X:Cx}{pos:Pos}
def gName (i:Nat):TG:=fun v σ H Q=>Q (σ.set i (some v)) H
theorem pg_name {i:Nat}{x:Str} (hN:X.N.Nodup) (hi:X.N[i]?=some x) (hx:Loc X.env.scope x) (hf:X.fn x=true∨X.env.scope.names.lookup x=some .local:=by first | exact .inl rfl | exact .inr rfl | assumption):PG X (.Name x pos) (gName i):=by
 intro pins s σ H v u Q I r h
 exact wpAny_assign_Name (store_ok I hN hi hx r (fun s' I'=>⟨_,H,I',h⟩) hf)
def gNil:TGs:=fun vs σ H Q=>vs=[]∧Q σ H
def gCons (t:TG) (u:TGs):TGs:=fun vs σ H Q=>∃ v r,vs=v::r∧t v σ H fun σ' H'=>u r σ' H' Q
theorem pgs_nil:PGs X [] gNil:=by
 intro pins s σ H vs us Q I r h
 obtain ⟨e,h⟩:=h
 subst e
 cases r
 exact assignInOrder_nil ⟨σ,H,I,h⟩
theorem pgs_cons {e:Expr}{es:List Expr}{t:TG}{u:TGs} (h1:PG X e t) (h2:PGs X es u)
  (hs:(assignEach (e::es) X.env).map (·.2)=assign e X.env::(assignEach es X.env).map (·.2):=by rfl):PGs X (e::es) (gCons t u):=by
 intro pins s σ H vs us Q I r h
 obtain ⟨v,vr,e1,h⟩:=h
 subst e1
 cases r with
 | cons r rr=>
   rw [hs]
   refine assignInOrder_cons (thn (h1 pins s σ H _ _ _ I r h) fun _ s1 ⟨σ1,H1,I1,q1⟩=>?_)
   exact h2 pins s1 σ1 H1 _ _ Q I1 rr q1
def gTup (K:PySem.W.Frag) (n:Nat) (t:TGs):TG:=fun v σ H Q=>∃ a xs,v=.ref a∧SqT K H a xs∧xs.length=n∧t xs σ H Q
theorem pg_tup {es:List Expr}{k:Nat}{t:TGs}{n:Nat} (hc:X.calm=true) (h:PGs X es t)
  (hn:(assignEach es X.env).length=n:=by rfl) (hst:(assignEach es X.env).findIdx? (·.1)=none:=by rfl):PG X (.Tuple es k pos) (gTup X.K n t):=by
 intro pins s σ H v u Q I r hw
 obtain ⟨a,xs,e1,hq,hl,hw⟩:=hw
 subst e1
 cases r
 obtain ⟨its,rv,ht,hz⟩:=I.tuple hq
 refine assign_Tuple_tuple (I.ok.hd hc) ht (by simp [hn,←hl,rv.length]) hst fun h' hx=>?_
 have I1:Inv X pins σ H { s with heap:=h' }:=I.kept (t':=s.toks) fun b o e=>hx b o (Nat.ne_of_lt (Heap.lt_size e)) e
 exact h pins _ σ H xs _ Q I1 (by simpa using rv) hw
def gSub (to ti:TE) (t:TSet):TG:=fun v σ H Q=>to σ H fun o H1=>ti σ H1 fun i H2=>t o i v H2 fun H3=>Q σ H3
theorem pg_sub {o i:Expr}{to ti:TE}{t:TSet} (ho:PE X o to) (hi:PE X i ti) (hs:PSet X t)
  (ha:∀ v,assign (.Subscript o i pos) X.env v=(do
    let ov ←holding [v] (eval o X.env)
    let iv ←holding [v,ov] (eval i X.env)
    standAt pos
    holding [v,ov,iv] (setItem ov iv v)
    release [v,ov,iv] []):=by intro _;rfl):PG X (.Subscript o i pos) (gSub to ti t):=by
 intro pins s σ H v u Q I r h
 rw [ha]
 refine wpAny_bind (wpAny_holding (thn (ho pins s σ H _ I h) fun ov s1 ⟨x,H1,I1,r1,q1⟩=>?_))
 refine wpAny_bind (wpAny_holding (thn (hi pins s1 σ H1 _ I1 q1) fun iv s2 ⟨y,H2,I2,r2,q2⟩=>?_))
 refine wpAny_bind (wpAny_standAt (wpAny_bind (wpAny_holding (thn (hs pins s2 σ H2 x y v ov iv u _ I2 r1 r2 r q2) fun _ s3 ⟨H3,I3,q3⟩=>?_))))
 exact wpAny_release ⟨σ,H3,I3,q3⟩
def tAsg (te:TE) (g:TG):TS:=fun D σ H=>te σ H fun x H1=>g x σ H1 D.nx
theorem ps_asg {tg e:Expr}{te:TE}{g:TG} (he:PE X e te) (hg:PG X tg g) (hs:swapsWithSole [tg] e pos.line X.env=pure false:=by rfl) (hw:swappedStores [tg] e X.env=pure none:=by rfl)
  (h1:(assignEach [tg] X.env).map (·.2)=[assign tg X.env]:=by rfl):PS X (.Assign [tg] e pos) (tAsg te g):=by
 intro pins s σ H D I h
 refine wpAny_Assign_stores (thn (he pins s σ H _ I h) fun v s1 ⟨x,H1,I1,r1,q1⟩=>?_) hs hw
 rw [h1]
 exact thn (hg pins s1 σ H1 x v _ I1 r1 q1) fun _ s2 q=>q
theorem ps_set {i:Nat}{x:Str}{e:Expr}{te:TE}{pos':Pos} (hN:X.N.Nodup) (hi:X.N[i]?=some x) (hx:Loc X.env.scope x) (he:PE X e te) (hs:swapsWith e (some (.Name x pos')) pos.line X.env=pure false:=by rfl) (hf:X.fn x=true∨X.env.scope.names.lookup x=some .local:=by first | exact .inl rfl | exact .inr rfl | assumption) :
  PS X (.Assign [.Name x pos'] e pos) (tAsg te (gName i)):=by
 intro pins s σ H D I h
 refine wpAny_Assign_Name (thn (he pins s σ H _ I h) fun v s1 ⟨y,H1,I1,r1,q1⟩=>?_) hs
 exact store_ok I1 hN hi hx r1 (fun s2 I2=>⟨_,H1,I2,q1⟩) hf
def tPar (i j:Nat) (ta:TA):TS:=fun D σ H=>ta σ H fun vs H1=>∃ v w,vs=[v,w]∧D.nx ((σ.set i (some v)).set j (some w)) H1
theorem ps_par {i j:Nat}{x y:Str}{a b:Expr}{ta:TA}{px py pt:Pos}{kt k2 pt2} (hc:X.calm=true) (hN:X.N.Nodup) (hi:X.N[i]?=some x) (hj:X.N[j]?=some y) (hij:i≠j)
  (hx:X.env.scope.names.lookup x=some .local) (hy:X.env.scope.names.lookup y=some .local) (ha:PA X [a,b] ta)
  (hw:swappedStores [.Tuple [.Name x px,.Name y py] kt pt] (.Tuple [a,b] k2 pt2) X.env=pure (some [x,y]))
  (hs:swapsWithSole [.Tuple [.Name x px,.Name y py] kt pt] (.Tuple [a,b] k2 pt2) pos.line X.env=pure false:=by rfl) :
  PS X (.Assign [.Tuple [.Name x px,.Name y py] kt pt] (.Tuple [a,b] k2 pt2) pos) (tPar i j ta):=by
 intro pins s σ H D I h
 rw [exec_Assign_arm]
 refine wpAny_bind (wpAny_standAt ?_)
 rw [hs]
 refine wpAny_bind (wpAny_pure ?_)
 rw [if_neg (by decide)]
 refine wpAny_bind (Tuple_ (thn (ha _ pins s σ H _ I h) fun us s1 ⟨vs,H1,I1,r1,q1⟩=>?_))
 obtain ⟨v,w,e1,q1⟩:=q1
 subst e1
 obtain ⟨u1,u2,rfl,rv,rw'⟩:∃ u1 u2,us=[u1,u2]∧RelV v u1∧RelV w u2:=by
  cases r1 with
  | cons p q=>
    cases q with
    | cons p' q'=>
      cases q'
      exact ⟨_,_,rfl,p,p'⟩
 refine wpAny_newObj_type ?_ (by show 2≤sizeLine;decide)
 have I2:Inv X pins σ H1 { s1 with heap:=s1.heap.push { cls:=.type "tuple",data:=.seq [u1,u2].toArray } }:=I1.kept (t':=s1.toks) fun b o e=>Heap.get?_push_of_some _ e
 rw [hw]
 refine wpAny_bind (wpAny_pure ?_)
 show wpAny (model X.prog X.w) X.A (do rule "assign.swapped-stores";let items ←unpackItems (.ref s1.heap.objs.size) 2 none;assignInOrder [fun v=>bindName X.env y v,fun v=>bindName X.env x v] items.reverse;pure Flow.next) _ _ _
 refine wpAny_bind (wpAny_rule (wpAny_bind (unpackItems_tuple (items:=#[u1,u2]) (I.ok.hd hc) (IsTup.new s1.heap _) fun h' hx'=>?_)))
 have I3:=I2.kept (h':=h') (t':=s1.toks) fun b o e=>hx' b o (Nat.ne_of_lt (Heap.lt_size e)) e
 show wpAny _ _ (assignInOrder [fun v=>bindName X.env y v,fun v=>bindName X.env x v] [u2,u1] >>= fun _=>pure Flow.next) _ _ _
 refine wpAny_bind (assignInOrder_cons (wpAny_bindName (store_ok I3 hN hj (.inl hy) rw' (fun s2 I4=>?_) (.inr hy))))
 refine assignInOrder_cons (wpAny_bindName (store_ok I4 hN hi (.inl hx) rv (fun s3 I5=>assignInOrder_nil (wpAny_pure ?_)) (.inr hx)))
 rw [List.set_comm _ _ (Ne.symm hij)] at I5
 exact ⟨_,H1,I5,q1⟩
def tAugS (to ti te:TE) (tget:V->V->Hp->VK->Prop) (tip:TIp) (tset:TSet):TS:=fun D σ H=>to σ H fun o H1=>ti σ H1 fun i H2=>tget o i H2 fun x H3=>te σ H3 fun y H4=>tip x y H4 fun z H5=>tset o i z H5 fun H6=>D.nx σ H6
def PGet (X:Cx) (t:V->V->Hp->VK->Prop):Prop:=
 ∀ (pins:List (Addr×Obj)) (s:Shared) (σ:St) (H:Hp) (o i:V) (ov iv:Value) (Q:VK),Inv X pins σ H s->RelV o ov->RelV i iv->t o i H Q->
   wpAny (model X.prog X.w) X.A (getItem ov iv) (EP X pins σ Q) X.xe s
theorem ps_augS {o i e:Expr}{to ti te:TE}{tget:V->V->Hp->VK->Prop}{tip:TIp}{tset:TSet}{op:Operator}{tpos:Pos} (ho:PE X o to) (hi:PE X i ti) (hg:PGet X tget) (he:PE X e te) (hp:PIp X op tip) (hs:PSet X tset)
  (ha:∀ ov iv new,augStore i ov iv new=(do holding [new,ov,iv] (setItem ov iv new);release [new,ov,iv] [];pure .next):=by intros;rfl):PS X (.AugAssign (.Subscript o i tpos) op e pos) (tAugS to ti te tget tip tset):=by
 intro pins s σ H D I h
 refine wpAny_AugAssign_SubscriptAny (thn (ho pins s σ H _ I h) fun ov s1 ⟨x1,H1,I1,r1,q1⟩=>?_) ha
 refine thn (hi pins s1 σ H1 _ I1 q1) fun iv s2 ⟨x2,H2,I2,r2,q2⟩=>?_
 refine thn (hg pins s2 σ H2 x1 x2 ov iv _ I2 r1 r2 q2) fun old s3 ⟨x3,H3,I3,r3,q3⟩=>?_
 refine thn (he pins s3 σ H3 _ I3 q3) fun v s4 ⟨x4,H4,I4,r4,q4⟩=>?_
 refine thn (hp pins s4 σ H4 x3 x4 old v _ I4 r3 r4 q4) fun new s5 ⟨x5,H5,I5,r5,q5⟩=>?_
 exact thn (hs pins s5 σ H5 x1 x2 x5 ov iv new _ I5 r1 r2 r5 q5) fun _ s6 ⟨H6,I6,q6⟩=>⟨σ,H6,I6,q6⟩
end
section
variable {X:Cx}{pos:Pos}
def tWhile (c:TT) (tb:TS):TS:=fun D σ H=>∃ W:Nat->St->Hp->Prop,(∃ m,W m σ H)∧∀ m σ H,W m σ H->
 c σ H fun b H1=>if b=true then ∃ N:St->Hp->Prop,(∀ σ' H',N σ' H'->∃ m',m'<m∧W m' σ' H')∧tb { D with nx:=N,ct:=N,bk:=D.nx } σ H1 else D.nx σ H1
theorem ps_while {c:Expr}{body:List Stmt}{tc:TT}{tb:TS} (hp:PassesOwn (model X.prog X.w) X.A X.env X.xe) (hc:PT X c tc) (hb:PSs X body tb):PS X (.While c body [] pos) (tWhile tc tb):=by
 intro pins s σ H D I h
 obtain ⟨W,⟨m0,w0⟩,turn⟩:=h
 refine wpAny_While (codeAny_whileLoop (fun n s'=>∃ σ' H',Inv X pins σ' H' s'∧W n σ' H') ?_ m0 ⟨σ,H,I,w0⟩)
 rintro n s1 ⟨σ1,H1,I1,w1⟩
 refine wpAny_passesOwn hp (thn (hc pins s1 σ1 H1 _ I1 (turn n σ1 H1 w1)) fun b s2 ⟨H2,I2,q2⟩=>?_)
 cases b with
 | true=>
   obtain ⟨N,hN,q2⟩:=q2
   rw [if_pos rfl]
   refine wpAny_passesOwn hp (thn (hb pins s2 σ1 H2 _ I2 q2) fun f s3 q3=>?_)
   cases f with
   | next=>
     obtain ⟨σ3,H3,I3,n3⟩:=q3
     obtain ⟨m',hm,w3⟩:=hN σ3 H3 n3
     exact ⟨m',hm,σ3,H3,I3,w3⟩
   | cont=>
     obtain ⟨σ3,H3,I3,n3⟩:=q3
     obtain ⟨m',hm,w3⟩:=hN σ3 H3 n3
     exact ⟨m',hm,σ3,H3,I3,w3⟩
   | brk=>exact q3
   | ret v=>exact q3
 | false=>
   rw [if_neg Bool.false_ne_true]
   exact wpAny_execs_nil ⟨σ1,H2,I2,q2⟩
end
structure It where
 go:Nat->Hp->Prop
 yld:Nat->Hp->V->Hp->Prop
 stop:Nat->Hp->Prop
def FpOk (X:Cx) (pins:List (Addr×Obj)) (H:Hp) (b:Addr):Prop:=
 H b=none∧b≠X.env.locals∧b∉X.fs∧(b∈X.ex∨X.s₀.heap.objs.size≤b)∧(∀ x c,X.env.cells.lookup x=some c->c≠b)∧∀ p∈X.pn++pins,p.1≠b
theorem Inv.fpOk {X:Cx}{pins:List (Addr×Obj)}{σ:St}{H H':Hp}{s:Shared}{b:Addr} (I:Inv X pins σ H s) (hb:s.heap.objs.size≤b) (hn:H' b=none):FpOk X pins H' b:=by
 refine ⟨hn,Nat.ne_of_gt (Nat.lt_of_lt_of_le I.lt hb),I.nofs hb,.inr (Nat.le_trans I.sz hb),fun x c e z=>?_,fun p hp z=>?_⟩
 ·obtain ⟨v,q⟩:=I.cell x c e
  exact absurd (Nat.lt_of_lt_of_le q.lt (by rw [z];exact hb)) (Nat.lt_irrefl _)
 ·exact absurd (Nat.lt_of_lt_of_le (Heap.lt_size (I.pin p hp).1) (by rw [z];exact hb)) (Nat.lt_irrefl _)
structure Turn (P:Program) (w:World) (K:PySem.W.Frag) (tg:Expr) (J:It) (fp:List Addr) (it:Addr) (tn:Nat->Heap->Prop):Prop where
 mem:it∈fp
 obj:∀ i h,tn i h->∀ b∈fp,∃ o,h.get? b=some o∧∀ v,o.data≠.cell v
 keep:∀ i h h',tn i h->(∀ b∈fp,∀ o,h.get? b=some o->h'.get? b=some o)->tn i h'
 item:∀ (X:Cx),X.prog=P->X.w=w->X.K=K->X.calm=true->∀ (i:Nat) (pins:List (Addr×Obj)) (s:Shared) (σ:St) (H:Hp) (E:Value->Shared->Prop),Inv X pins σ H s->(∀ b∈fp,FpOk X pins H b)->tn i s.heap->J.go i H->
  wpAny (model P w) X.A (pyNext (.ref it)) (fun r s1=>∃ u,r=some u ∧
   wpAny (model P w) X.A (letOwnedTupleGo tg (.ref it) u) (fun _ s2=>∃ x H',Inv X pins σ H' s2∧RelV x u∧J.yld i H x H'∧tn (i + 1) s2.heap∧∀ b∈fp,H' b=none) E s1) E s
 done:∀ (X:Cx),X.prog=P->X.w=w->X.K=K->X.calm=true->∀ (i:Nat) (pins:List (Addr×Obj)) (s:Shared) (σ:St) (H:Hp) (E:Value->Shared->Prop),Inv X pins σ H s->(∀ b∈fp,FpOk X pins H b)->tn i s.heap->J.stop i H->
  wpAny (model P w) X.A (pyNext (.ref it)) (fun r s1=>r=none∧Inv X pins σ H s1) E s
 self:∀ (A:Around) (i:Nat) (s:Shared) (Q:Value->Shared->Prop) (E:Value->Shared->Prop),tn i s.heap->Q (.ref it) s->wpAny (model P w) A (pyIter (.ref it)) Q E s
abbrev TI:=St->Hp->(It->Hp->Prop)->Prop
def PIE (X:Cx) (pins:List (Addr×Obj)) (σ:St) (tg:Expr) (R:It->Hp->Prop) (itv:Value) (s2:Shared):Prop:=
 ∃ (it:Addr) (fp:List Addr) (tn:Nat->Heap->Prop) (J:It) (H':Hp),itv=.ref it∧Inv X pins σ H' s2∧Turn X.prog X.w X.K tg J fp it tn∧tn 0 s2.heap∧(∀ b∈fp,FpOk X pins H' b)∧R J H'
def PI (X:Cx) (tg iter:Expr) (wi:TI):Prop:=
 ∀ (pins:List (Addr×Obj)) (s:Shared) (σ:St) (H:Hp) (R:It->Hp->Prop),Inv X pins σ H s->wi σ H R->
   wpAny (model X.prog X.w) X.A (eval iter X.env) (fun v s1=>wpAny (model X.prog X.w) X.A (pyIter v) (PIE X pins σ tg R) X.xe s1) X.xe s
theorem go_of {M:Model}{A:Around}{E:Value->Shared->Prop}{s:Shared}{tg:Expr}{it:Addr}{u:Value}{o:Obj}{n:String}{vs:Array Value}{Q:Unit->Shared->Prop} (ho:s.heap.get? it=some o) (hc:o.cls=.type n) (hd:o.data=.fields vs)
  (hn:["enumerate", "zip", "dict_itemiterator", "dict_reverseitemiterator", "odict_iterator", "itertools.zip_longest", "itertools.pairwise"].contains n=false) (hQ:Q () s):wpAny M A (letOwnedTupleGo tg (.ref it) u) Q E s:=by
 unfold letOwnedTupleGo
 cases tg<;>first
  | exact wpAny_pure hQ
  | (cases u<;>first
      | exact wpAny_pure hQ
      | (refine wpAny_bind (wpAny_load ho ?_)
         rw [hc,hd]
         show wpAny M A (if (["enumerate", "zip", "dict_itemiterator", "dict_reverseitemiterator", "odict_iterator", "itertools.zip_longest", "itertools.pairwise"].contains n && vs[0]? == some (rawInt _))=true then _ else _) Q E s
         rw [if_neg (by intro h;rw [hn,Bool.false_and] at h;cases h)]
         exact wpAny_pure hQ))
def Itl (K:PySem.W.Frag) (a:Addr):It:=
 ⟨fun i H=>∃ xs x,SqL K H a xs∧xs[i]?=some x,fun i H x H'=>H'=H∧∀ xs,SqL K H a xs->xs[i]?=some x,fun i H=>∃ xs,SqL K H a xs∧xs.length≤i⟩
def Itt (K:PySem.W.Frag) (a:Addr):It:=
 ⟨fun i H=>∃ xs x,SqT K H a xs∧xs[i]?=some x,fun i H x H'=>H'=H∧∀ xs,SqT K H a xs->xs[i]?=some x,fun i H=>∃ xs,SqT K H a xs∧xs.length≤i⟩
def Itr (lo:Int) (n:Nat):It:=⟨fun i _=>i<n,fun i H x H'=>H'=H∧x=.int (lo + i),fun i _=>n≤i⟩
theorem turn_list {P:Program}{w:World}{K:PySem.W.Frag}{tg:Expr} (a it:Addr):Turn P w K tg (Itl K a) [it] it (fun i h=>h.IsListIter it a i) where
 mem:=by simp
 obj:=fun i h st b hb=>by
  have e:b=it:=by simpa using hb
  subst e
  obtain ⟨o,e,c,d⟩:=st
  exact ⟨o,e,fun v z=>by rw [d] at z;cases z⟩
 keep:=fun i h h' st k=>st.at fun o e=>k it (by simp) o e
 item:=by
  intro X hP hw hK hc i pins s σ H E I hf st hg
  subst hP hw hK
  obtain ⟨xs,x,hq,hx⟩:=hg
  obtain ⟨its,rv,p,hz⟩:=I.list hq
  obtain ⟨u,hu,ru⟩:=rv.get hx
  obtain ⟨f0,f1,f2,f3,f4,f5⟩:=hf it (by simp)
  refine wpAny_pyNext_list_item st p.isList (x:=u) (by simpa using hu) fun h' st' sb=>?_
  have I1:Inv X pins σ H { s with heap:=h' }:=I.turned (t':=s.toks) (fun b o hb e=>(sb.2 b hb).trans e) f0 f1 f3 f4 f5
  obtain ⟨o,e,c,d⟩:=id st'
  exact ⟨u,rfl,go_of (s:={ s with heap:=h' }) e c d (by decide) ⟨x,H,I1,ru,⟨rfl,fun ys hy=>by rw [I.list_inj hy hq];exact hx⟩,st',fun b hb=>(hf b hb).1⟩⟩
 done:=by
  intro X hP hw hK hc i pins s σ H E I hf st hg
  subst hP hw hK
  obtain ⟨xs,hq,hx⟩:=hg
  obtain ⟨its,rv,p,hz⟩:=I.list hq
  obtain ⟨f0,f1,f2,f3,f4,f5⟩:=hf it (by simp)
  have hl:=rv.length
  exact wpAny_pyNext_list_end (I.ok.hd hc) st p.isList (by simp;omega) fun h' eb=>⟨rfl,I.turned (t':=s.toks) (fun b o hb e=>eb b o hb e) f0 f1 f3 f4 f5⟩
 self:=fun _ _ _ _ _ st h=>wpAny_pyIter_listiter st h
theorem turn_tuple {P:Program}{w:World}{K:PySem.W.Frag}{tg:Expr} (a it:Addr):Turn P w K tg (Itt K a) [it] it (fun i h=>h.IsTupleIter it a i) where
 mem:=by simp
 obj:=fun i h st b hb=>by
  have e:b=it:=by simpa using hb
  subst e
  obtain ⟨o,e,c,d⟩:=st
  exact ⟨o,e,fun v z=>by rw [d] at z;cases z⟩
 keep:=fun i h h' st k=>st.at fun o e=>k it (by simp) o e
 item:=by
  intro X hP hw hK hc i pins s σ H E I hf st hg
  subst hP hw hK
  obtain ⟨xs,x,hq,hx⟩:=hg
  obtain ⟨its,rv,p,hz⟩:=I.tuple hq
  obtain ⟨u,hu,ru⟩:=rv.get hx
  obtain ⟨f0,f1,f2,f3,f4,f5⟩:=hf it (by simp)
  refine wpAny_pyNext_tuple_item st (show s.heap.IsTuple a its.toArray from p) (x:=u) (by simpa using hu) fun h' st' sb=>?_
  have I1:Inv X pins σ H { s with heap:=h' }:=I.turned (t':=s.toks) (fun b o hb e=>(sb.2 b hb).trans e) f0 f1 f3 f4 f5
  obtain ⟨o,e,c,d⟩:=id st'
  exact ⟨u,rfl,go_of (s:={ s with heap:=h' }) e c d (by decide) ⟨x,H,I1,ru,⟨rfl,fun ys hy=>by rw [I.tuple_inj hy hq];exact hx⟩,st',fun b hb=>(hf b hb).1⟩⟩
 done:=by
  intro X hP hw hK hc i pins s σ H E I hf st hg
  subst hP hw hK
  obtain ⟨xs,hq,hx⟩:=hg
  obtain ⟨its,rv,p,hz⟩:=I.tuple hq
  obtain ⟨f0,f1,f2,f3,f4,f5⟩:=hf it (by simp)
  have hl:=rv.length
  exact wpAny_pyNext_tuple_end (I.ok.hd hc) st (show s.heap.IsTuple a its.toArray from p) (by simp;omega) fun h' eb=>⟨rfl,I.turned (t':=s.toks) (fun b o hb e=>eb b o hb e) f0 f1 f3 f4 f5⟩
 self:=fun _ _ _ _ _ st h=>wpAny_pyIter_tupleiter st h
theorem turn_range {P:Program}{w:World}{K:PySem.W.Frag}{tg:Expr} (it:Addr) (lo:Int) (n:Nat):Turn P w K tg (Itr lo n) [it] it (fun i h=>IsRangeIter h it (lo + (i:Nat) * 1) ((n:Int) - (i:Nat)) 1) where
 mem:=by simp
 obj:=fun i h st b hb=>by
  have e:b=it:=by simpa using hb
  subst e
  exact ⟨_,st,fun v z=>by
   have z':Data.fields _=Data.cell v:=z
   cases z'⟩
 keep:=fun i h h' st k=>k it (by simp) _ st
 item:=by
  intro X hP hw hK hc i pins s σ H E I hf st hg
  subst hP hw hK
  obtain ⟨f0,f1,f2,f3,f4,f5⟩:=hf it (by simp)
  have W:=Walks.range (prog:=X.prog) (w:=X.w) (I.ok.hd hc) it lo 1 n
  refine W.item i s _ _ hg st fun v h' tk hv st' kk=>?_
  obtain ⟨t,rfl⟩:=hv
  have I1:Inv X pins σ H { s with heap:=h',toks:=tk }:=I.turned (fun b o hb e=>kk b o (by simpa using hb) e) f0 f1 f3 f4 f5
  refine ⟨_,rfl,go_of (s:={ s with heap:=h',toks:=tk }) (n := "range_iterator") st' rfl rfl (by decide) ⟨.int (lo + i),H,I1,⟨t,?_⟩,⟨rfl,rfl⟩,st',fun b hb=>(hf b hb).1⟩⟩
  rw [Int.mul_one]
 done:=by
  intro X hP hw hK hc i pins s σ H E I hf st hg
  subst hP hw hK
  obtain ⟨f0,f1,f2,f3,f4,f5⟩:=hf it (by simp)
  exact wpAny_pyNext_range_end (I.ok.hd hc) st (by have:n≤i:=hg;omega) fun h' eb=>⟨rfl,I.turned (t':=s.toks) (fun b o hb e=>eb b o hb e) f0 f1 f3 f4 f5⟩
 self:=fun _ _ _ _ _ st h=>wpAny_pyIter_rangeiter st h
open PySem PySem.Spec PyProof.Rows
section
variable {X:Cx}{tg:Expr}
def iList (K:PySem.W.Frag) (tl:TE):TI:=fun σ H R=>tl σ H fun x H1=>∃ a,x=.ref a∧(∃ xs,SqL K H1 a xs)∧R (Itl K a) H1
def iTup (K:PySem.W.Frag) (tl:TE):TI:=fun σ H R=>tl σ H fun x H1=>∃ a,x=.ref a∧(∃ xs,SqT K H1 a xs)∧R (Itt K a) H1
theorem pi_list {l:Expr}{tl:TE} (hl:PE X l tl):PI X tg l (iList X.K tl):=by
 intro pins s σ H R I h
 refine thn (hl pins s σ H _ I h) fun v s1 ⟨x,H1,I1,r1,q1⟩=>?_
 obtain ⟨a,e,⟨xs,hq⟩,q⟩:=q1
 subst e
 cases r1
 obtain ⟨its,rv,p,hz⟩:=I1.list hq
 refine wpAny_pyIter_list p.isList ?_
 refine ⟨s1.heap.objs.size,[s1.heap.objs.size],_,_,H1,rfl,I1.kept (t':=s1.toks) fun b o e=>Heap.get?_push_of_some _ e,turn_list a _,⟨_,Heap.get?_push_size _ rfl,rfl,rfl⟩,fun b hb=>?_,q⟩
 have e:b=s1.heap.objs.size:=by simpa using hb
 subst e
 exact I1.fpOk (Nat.le_refl _) (I1.hok.fresh (Nat.le_refl _))
theorem pi_tup {l:Expr}{tl:TE} (hl:PE X l tl):PI X tg l (iTup X.K tl):=by
 intro pins s σ H R I h
 refine thn (hl pins s σ H _ I h) fun v s1 ⟨x,H1,I1,r1,q1⟩=>?_
 obtain ⟨a,e,⟨xs,hq⟩,q⟩:=q1
 subst e
 cases r1
 obtain ⟨its,rv,p,hz⟩:=I1.tuple hq
 refine wpAny_pyIter_tuple (show s1.heap.IsTuple a its.toArray from p) ?_
 refine ⟨s1.heap.objs.size,[s1.heap.objs.size],_,_,H1,rfl,I1.kept (t':=s1.toks) fun b o e=>Heap.get?_push_of_some _ e,turn_tuple a _,⟨_,Heap.get?_push_size _ rfl,rfl,rfl⟩,fun b hb=>?_,q⟩
 have e:b=s1.heap.objs.size:=by simpa using hb
 subst e
 exact I1.fpOk (Nat.le_refl _) (I1.hok.fresh (Nat.le_refl _))
theorem range_it {pins:List (Addr×Obj)}{σ:St}{H:Hp}{s:Shared}{R:It->Hp->Prop}{E:Value->Shared->Prop}{lo hi:Int}{t u v:Tok}{tk:Nat} (I:Inv X pins σ H s) (h1:-(2 ^ 62)≤lo) (h2:lo<2 ^ 62) (h3:-(2 ^ 62)≤hi) (h4:hi<2 ^ 62)
  (q:R (Itr lo (hi - lo).toNat) H):wpAny (model X.prog X.w) X.A (pyIter (.ref s.heap.objs.size)) (PIE X pins σ tg R) E { s with heap:=s.heap.push { cls:=.type "range",data:=.fields #[.int lo t,.int hi u,.int 1 v] },toks:=tk }:=by
 refine wpAny_pyIter_range (IsRange.new ..) (small_one h1 h2 h3 h4) ?_
 have I1:Inv X pins σ H { s with heap:=s.heap.push { cls:=.type "range",data:=.fields #[.int lo t,.int hi u,.int 1 v] },toks:=tk }:=I.kept fun b o e=>Heap.get?_push_of_some _ e
 refine ⟨(s.heap.push { cls:=.type "range",data:=.fields #[.int lo t,.int hi u,.int 1 v] }).objs.size,[(s.heap.push { cls:=.type "range",data:=.fields #[.int lo t,.int hi u,.int 1 v] }).objs.size],_,_,H,rfl,
  I1.kept (t':=tk) fun b o e=>Heap.get?_push_of_some _ e,turn_range _ lo (hi - lo).toNat,?_,fun b hb=>?_,q⟩
 ·have e1:lo + ((0:Nat):Int) * 1=lo:=by simp
  have e2:(((hi - lo).toNat:Nat):Int) - ((0:Nat):Int)=Builtin.Range.rangeSize lo hi 1:=by rw [rangeSize_one];split<;>omega
  show IsRangeIter _ _ (lo + ((0:Nat):Int) * 1) ((((hi - lo).toNat:Nat):Int) - ((0:Nat):Int)) 1
  rw [e1,e2]
  exact Heap.get?_push_size _ rfl
 ·have e:b=(s.heap.push { cls:=.type "range",data:=.fields #[.int lo t,.int hi u,.int 1 v] }).objs.size:=by simpa using hb
  subst e
  exact I1.fpOk (Nat.le_refl _) (I1.hok.fresh (Nat.le_refl _))
def iRng1 (ta:TA):TI:=fun σ H R=>ta σ H fun vs H1=>∃ j:Int,vs=[.int j]∧-(2 ^ 62)≤j∧j<2 ^ 62∧R (Itr 0 j.toNat) H1
def iRng2 (ta:TA):TI:=fun σ H R=>ta σ H fun vs H1=>∃ i j:Int,vs=[.int i,.int j]∧(-(2 ^ 62)≤i∧i<2 ^ 62∧-(2 ^ 62)≤j∧j<2 ^ 62)∧R (Itr i (j - i).toNat) H1
theorem pi_range1 {a:Expr}{ta:TA}{p pos:Pos} (hg:Gl X "range") (hm:X.mg "range"=none) (ha:PA X [a] ta) (hs:starEach [a] X.env=[(false,eval a X.env)]:=by rfl):PI X tg (.Call (.Name "range" p) [a] [] pos) (iRng1 ta):=by
 intro pins s σ H R I h
 refine Call_ (ld_blt I hg hm boot_range (PyProof.Rows.callWith_type1 (thn (ha pos pins s σ H _ I h) fun us s1 ⟨vs,H1,I1,r1,q1⟩=>?_) hs rfl))
 obtain ⟨j,e,q1,q2,q⟩:=q1
 subst e
 cases r1 with
 | cons r rr=>
   cases rr
   obtain ⟨t,rfl⟩:=r
   exact call_range_1 (range_it I1 (by omega) (by omega) q1 q2 (by simpa using q))
theorem pi_range2 {a b:Expr}{ta:TA}{p pos:Pos} (hg:Gl X "range") (hm:X.mg "range"=none) (ha:PA X [a,b] ta) (hs:starEach [a,b] X.env=[(false,eval a X.env),(false,eval b X.env)]:=by rfl) (hs2:starEach [b] X.env=[(false,eval b X.env)]:=by rfl) :
  PI X tg (.Call (.Name "range" p) [a,b] [] pos) (iRng2 ta):=by
 intro pins s σ H R I h
 refine Call_ (ld_blt I hg hm boot_range (PyProof.Rows.callWith_type1 (thn (ha pos pins s σ H _ I h) fun us s1 ⟨vs,H1,I1,r1,q1⟩=>?_) (by rw [hs,hs2]) (by rw [hs2];rfl)))
 obtain ⟨i,j,e,⟨q1,q2,q3,q4⟩,q⟩:=q1
 subst e
 cases r1 with
 | cons r rr=>
   cases rr with
   | cons r' rr=>
     cases rr
     obtain ⟨t,rfl⟩:=r
     obtain ⟨t',rfl⟩:=r'
     exact call_range_2 (range_it I1 q1 q2 q3 q4 q)
def tFor (wi:TI) (g:TG) (tb:TS):TS:=fun D σ H=>wi σ H fun J H1=>∃ W:Nat->Nat->St->Hp->Prop,(∃ m,W 0 m σ H1)∧∀ i m σ H,W i m σ H->
 (J.stop i H∧D.nx σ H)∨(J.go i H∧∃ N:St->Hp->Prop,(∀ σ' H',N σ' H'->∃ m',m'<m∧W (i + 1) m' σ' H')∧∀ x H',J.yld i H x H'->g x σ H' fun σ2 H2=>tb { D with nx:=N,ct:=N,bk:=D.nx } σ2 H2)
def pinsAt (fp:List Addr) (h:Heap):List (Addr×Obj):=fp.filterMap fun b=>(h.get? b).map fun o=>(b,o)
theorem mem_pinsAt {fp:List Addr}{h:Heap}{b:Addr}{o:Obj} (hb:b∈fp) (e:h.get? b=some o):(b,o)∈pinsAt fp h:=List.mem_filterMap.mpr ⟨b,hb,by rw [e];rfl⟩
theorem of_pinsAt {fp:List Addr}{h:Heap}{p:Addr×Obj} (hp:p∈pinsAt fp h):p.1∈fp∧h.get? p.1=some p.2:=by
 obtain ⟨b,hb,e⟩:=List.mem_filterMap.mp hp
 cases q:h.get? b with
 | none=>rw [q] at e;cases e
 | some o=>
   rw [q] at e
   have e':(b,o)=p:=Option.some.inj e
   subst e'
   exact ⟨hb,q⟩
theorem Inv.pinned {pins:List (Addr×Obj)}{σ:St}{H:Hp}{s:Shared}{fp:List Addr} (I:Inv X pins σ H s) (hf:∀ b∈fp,FpOk X pins H b) (ho:∀ b∈fp,∃ o,s.heap.get? b=some o∧∀ v,o.data≠.cell v):Inv X (pins++pinsAt fp s.heap) σ H s:=
 I.pins_of fun p hp=>(List.mem_append.mp hp).elim (fun z=>I.pin p (List.mem_append_right _ z)) fun z=>by
  obtain ⟨hb,e⟩:=of_pinsAt z
  obtain ⟨f0,f1,f2,_⟩:=hf p.1 hb
  obtain ⟨o,e',d⟩:=ho p.1 hb
  rw [e] at e';cases e'
  exact ⟨e,f0,f1,f2,d⟩
theorem Inv.unpinned {pins pl:List (Addr×Obj)}{σ:St}{H:Hp}{s:Shared} (I:Inv X (pins++pl) σ H s):Inv X pins σ H s:=I.pins_of fun p hp=>I.pin p (List.mem_append_right _ (List.mem_append_left _ hp))
theorem ps_for {iter:Expr}{body:List Stmt}{wi:TI}{g:TG}{tb:TS}{pos:Pos} (hp:PassesOwn (model X.prog X.w) X.A X.env X.xe) (hc:X.calm=true) (hi:PI X tg iter wi) (hg:PG X tg g) (hb:PSs X body tb)
  (hs:∀ x,foldedSetIterable iter X.env x=pure x:=by intro _;rfl):PS X (.For tg iter body [] pos) (tFor wi g tb):=by
 intro pins s σ H D I h
 refine wpAny_For (thn (hi pins s σ H _ I h) fun v s1 h1=>thn h1 fun itv s2 h2=>?_) hs
 obtain ⟨it,fp,tn,J,H2,e,I2,T,st2,f2,W,⟨m0,w0⟩,turn⟩:=h2
 subst e
 -- what stays true of the iterator's objects through the loop
 have stat:∀ {H':Hp},(∀ b∈fp,H' b=none)->∀ b∈fp,FpOk X pins H' b:=fun hn b hb=>⟨hn b hb,(f2 b hb).2⟩
 refine codeAny_forLoop_any (fun n s'=>∃ i σ' H',Inv X pins σ' H' s'∧tn i s'.heap∧(∀ b∈fp,H' b=none)∧W i n σ' H') ?_ m0 ⟨0,σ,H2,I2,st2,fun b hb=>(f2 b hb).1,w0⟩
 rintro n s3 ⟨i,σ3,H3,I3,st3,fr3,w3⟩
 rcases turn i n σ3 H3 w3 with ⟨stop,qn⟩ | ⟨go,N,hN,step⟩
 ·refine wpAny_passesOwn hp (thn (T.done X rfl rfl rfl hc i pins s3 σ3 H3 X.xe I3 (stat fr3) st3 stop) fun r s4 ⟨hr,I4⟩=>?_)
  subst hr
  exact wpAny_execs_nil ⟨σ3,H3,I4,qn⟩
 ·refine wpAny_passesOwn hp (thn (T.item X rfl rfl rfl hc i pins s3 σ3 H3 X.xe I3 (stat fr3) st3 go) fun r s4 ⟨u,hr,h4⟩=>?_)
  subst hr
  refine wpAny_passesOwn hp (thn h4 fun _ s5 ⟨x,H5,I5,r5,y5,st5,fr5⟩=>?_)
  have I5':=I5.pinned (stat fr5) (T.obj _ _ st5)
  refine wpAny_passesOwn hp (thn (hg _ s5 σ3 H5 x u _ I5' r5 (step x H5 y5)) fun _ s6 ⟨σ6,H6,I6,q6⟩=>?_)
  refine wpAny_passesOwn hp (thn (hb _ s6 σ6 H6 _ I6 q6) fun f s7 q7=>?_)
  have again:∀ {σ7:St}{H7:Hp},Inv X (pins++pinsAt fp s5.heap) σ7 H7 s7->N σ7 H7->∃ m,m<n∧∃ i σ' H',Inv X pins σ' H' s7∧tn i s7.heap∧(∀ b∈fp,H' b=none)∧W i m σ' H':=fun {σ7 H7} I7 n7=>by
   obtain ⟨m',hm,w7⟩:=hN σ7 H7 n7
   refine ⟨m',hm,i + 1,σ7,H7,I7.unpinned,T.keep _ _ _ st5 fun b hb o e=>(I7.pin (b,o) (List.mem_append_right _ (List.mem_append_right _ (mem_pinsAt hb e)))).1,fun b hb=>?_,w7⟩
   obtain ⟨o,e,d⟩:=T.obj _ _ st5 b hb
   exact (I7.pin (b,o) (List.mem_append_right _ (List.mem_append_right _ (mem_pinsAt hb e)))).2.1
  cases f with
  | next=>obtain ⟨σ7,H7,I7,n7⟩:=q7;exact again I7 n7
  | cont=>obtain ⟨σ7,H7,I7,n7⟩:=q7;exact again I7 n7
  | brk=>obtain ⟨σ7,H7,I7,q7⟩:=q7;exact ⟨σ7,H7,I7.unpinned,q7⟩
  | ret v=>obtain ⟨x7,σ7,H7,I7,r7,q7⟩:=q7;exact ⟨x7,σ7,H7,I7.unpinned,r7,q7⟩
end
open PySem PySem.Spec PyProof.Rows
abbrev R2:=V->V->Hp->VK->Prop
def OpR (X:Cx) (f:Value->Value->Sem Value) (r:R2):Prop:=
 ∀ (pins:List (Addr×Obj)) (s:Shared) (σ:St) (H:Hp) (x y:V) (v u:Value) (Q:VK),Inv X pins σ H s->RelV x v->RelV y u->r x y H Q->
   wpAny (model X.prog X.w) X.A (f v u) (EP X pins σ Q) X.xe s
def CallR (X:Cx) (f:Value) (r:List V->Hp->VK->Prop):Prop:=
 ∀ (pins:List (Addr×Obj)) (s:Shared) (σ:St) (H:Hp) (xs:List V) (us:List Value) (Q:VK),Inv X pins σ H s->Vals xs us->r xs H Q->
   wpAny (model X.prog X.w) X.A (call f us) (EP X pins σ Q) X.xe s
def TruR (X:Cx) (r:V->Hp->(Bool->Hp->Prop)->Prop):Prop:=
 ∀ (pins:List (Addr×Obj)) (s:Shared) (σ:St) (H:Hp) (x:V) (v:Value) (Q:Bool->Hp->Prop),Inv X pins σ H s->RelV x v->r x H Q->
   wpAny (model X.prog X.w) X.A (truthy v) (TP X pins σ Q) X.xe s
def tOp (r:R2) (ta tb:TE):TE:=fun σ H Q=>ta σ H fun x H1=>tb σ H1 fun y H2=>r x y H2 Q
def rI (C:Int->Int->Prop) (g:Int->Int->V):R2:=fun x y H Q=>∃ i j,x=.int i∧y=.int j∧C i j∧Q (g i j) H
def rI0 (g:Int->Int->V):R2:=fun x y H Q=>∃ i j,x=.int i∧y=.int j∧Q (g i j) H
section
variable {X:Cx}{a b c:Expr}{ta tb tc:TE}{pos:Pos}
theorem binT (ha:PE X a ta) (hb:PE X b tb) {pins:List (Addr×Obj)}{s:Shared}{σ:St}{H:Hp}{R:V->V->Hp->Prop} (I:Inv X pins σ H s)
  (h:ta σ H fun x H1=>tb σ H1 fun y H2=>R x y H2) {Q:Value->Shared->Prop}{f:Value->Value->Sem Value}
  (hf:∀ v u s2 x y H2,Inv X pins σ H2 s2->RelV x v->RelV y u->R x y H2->wpAny (model X.prog X.w) X.A (f v u) Q X.xe s2) :
  wpAny (model X.prog X.w) X.A (eval a X.env) (fun v s₁=>wpAny (model X.prog X.w) X.A (eval b X.env) (fun u s₂=>wpAny (model X.prog X.w) X.A (f v u) Q X.xe s₂) X.xe s₁) X.xe s:=by
 refine thn (ha pins s σ H _ I h) fun v s1 ⟨x,H1,I1,r1,q1⟩=>?_
 refine thn (hb pins s1 σ H1 _ I1 q1) fun u s2 ⟨y,H2,I2,r2,q2⟩=>?_
 exact hf v u s2 x y H2 I2 r1 r2 q2
theorem pe_op {op:Operator}{r:R2} (ho:OpR X (binaryOp op) r) (ha:PE X a ta) (hb:PE X b tb):PE X (.BinOp a op b pos) (tOp r ta tb):=by
 intro pins s σ H Q I h
 exact wpAny_BinOp (binT ha hb I h fun v u s2 x y H2 I2 rx ry q=>ho pins s2 σ H2 x y v u Q I2 rx ry q)
theorem opI {f:Value->Value->Sem Value}{C:Int->Int->Prop}{g:Int->Int->Int}
  (rule:∀ (i j:Int) (t u:Tok) (s:Shared) (Q:Value->Shared->Prop) (E:Value->Shared->Prop),C i j->Q (.int (g i j) s.toks) { s with toks:=s.toks + 1 }->wpAny (model X.prog X.w) X.A (f (.int i t) (.int j u)) Q E s) :
  OpR X f (rI C fun i j=>.int (g i j)):=by
 intro pins s σ H x y v u Q I rx ry h
 obtain ⟨i,j,rfl,rfl,hc,q⟩:=h
 obtain ⟨t,rfl⟩:=rx
 obtain ⟨t',rfl⟩:=ry
 exact rule i j t t' s _ _ hc ⟨.int (g i j),H,I.tok _,⟨_,rfl⟩,q⟩
theorem opI0 {f:Value->Value->Sem Value}{g:Int->Int->Int}
  (rule:∀ (i j:Int) (t u:Tok) (s:Shared) (Q:Value->Shared->Prop) (E:Value->Shared->Prop),Q (.int (g i j) s.toks) { s with toks:=s.toks + 1 }->wpAny (model X.prog X.w) X.A (f (.int i t) (.int j u)) Q E s) :
  OpR X f (rI0 fun i j=>.int (g i j)):=by
 intro pins s σ H x y v u Q I rx ry h
 obtain ⟨i,j,rfl,rfl,q⟩:=h
 obtain ⟨t,rfl⟩:=rx
 obtain ⟨t',rfl⟩:=ry
 exact rule i j t t' s _ _ ⟨.int (g i j),H,I.tok _,⟨_,rfl⟩,q⟩
theorem opB0 {f:Value->Value->Sem Value}{g:Int->Int->Bool}
  (rule:∀ (i j:Int) (t u:Tok) (s:Shared) (Q:Value->Shared->Prop) (E:Value->Shared->Prop),Q (.bool (g i j)) s->wpAny (model X.prog X.w) X.A (f (.int i t) (.int j u)) Q E s) :
  OpR X f (rI0 fun i j=>.bl (g i j)):=by
 intro pins s σ H x y v u Q I rx ry h
 obtain ⟨i,j,rfl,rfl,q⟩:=h
 obtain ⟨t,rfl⟩:=rx
 obtain ⟨t',rfl⟩:=ry
 exact rule i j t t' s _ _ ⟨.bl (g i j),H,I,rfl,q⟩
def CPow (i j:Int):Prop:=0≤j∧j≤1000000∧i.natAbs<2 ^ 64
theorem op_add:OpR X (binaryOp .Add) (rI0 fun i j=>.int (i + j)):=opI0 fun _ _ _ _ _ _ _ q=>add_int q
theorem op_sub:OpR X (binaryOp .Sub) (rI0 fun i j=>.int (i - j)):=opI0 fun _ _ _ _ _ _ _ q=>sub_int q
theorem op_mod:OpR X (binaryOp .Mod) (rI (fun _ j=>0<j) fun i j=>.int (i % j)):=opI fun i j _ _ _ _ _ hc q=>by
 have h1:(0:Int)<j:=hc
 exact mod_int' (by omega) (by rw [Int.fmod_eq_emod_of_nonneg i (by omega)];exact q)
theorem op_pow:OpR X (binaryOp .Pow) (rI CPow fun i j=>.int (i ^ j.toNat)):=opI fun _ _ _ _ _ _ _ hc q=>pow_int_small hc.1 hc.2.1 hc.2.2 q
theorem iop_add:OpR X (inplaceOp .Add) (rI0 fun i j=>.int (i + j)):=opI0 fun _ _ _ _ _ _ _ q=>iadd_int q
theorem iop_sub:OpR X (inplaceOp .Sub) (rI0 fun i j=>.int (i - j)):=opI0 fun _ _ _ _ _ _ _ q=>isub_int q
end
def scal:V->V->Bool
 | .non,.non=>true | .non,.int _=>true | .int _,.non=>true | .non,.bl _=>true | .bl _,.non=>true | .non,.str _=>true | .str _,.non=>true
 | .int _,.int _=>true | .bl _,.bl _=>true | .str _,.str _=>true | .byt _,.byt _=>true
 | .int _,.str _=>true | .str _,.int _=>true | .bl _,.str _=>true | .str _,.bl _=>true
 | _,_=>false
def rEq:R2:=fun x y H Q=>scal x y=true∧Q (.bl (decide (x=y))) H
def rNe:R2:=fun x y H Q=>scal x y=true∧Q (.bl (!decide (x=y))) H
theorem dec_int {i j:Int}:decide (V.int i=V.int j)=(i == j):=by
 rw [Bool.eq_iff_iff]
 simp
theorem dec_bl {i j:Bool}:decide (V.bl i=V.bl j)=(i == j):=by
 rw [Bool.eq_iff_iff]
 simp
theorem dec_str {i j:Str}:decide (V.str i=V.str j)=(i == j):=by
 rw [Bool.eq_iff_iff]
 simp
theorem dec_byt {i j:Array UInt8}:decide (V.byt i=V.byt j)=(i.toList == j.toList):=by
 rw [Bool.eq_iff_iff]
 cases i
 cases j
 simp
section
variable {X:Cx}{a b c:Expr}{ta tb tc:TE}{pos:Pos}
theorem fin_bl {pins:List (Addr×Obj)}{σ:St}{H:Hp}{s:Shared}{Q:VK}{k k':Bool} (I:Inv X pins σ H s) (q:Q (.bl k) H) (e:k=k'):EP X pins σ Q (.bool k') s:=by
 subst e
 exact ⟨.bl k,H,I,rfl,q⟩
theorem op_eq:OpR X (compareOp .Eq) rEq:=by
 intro pins s σ H x y v u Q I rx ry h
 obtain ⟨hs,q⟩:=h
 cases x with
 | non=>
   cases rx
   cases y with
   | non=>cases ry;exact PySem.EqNone.eq_none_none (fin_bl I q (by simp))
   | bl j=>cases ry;exact PySem.EqNone.eq_none_bool (fin_bl I q (by simp))
   | int j=>obtain ⟨t',rfl⟩:=ry;exact PySem.EqNone.eq_none_int (fin_bl I q (by simp))
   | str j=>obtain ⟨t',rfl⟩:=ry;exact PySem.EqNone.eq_none_str (fin_bl I q (by simp))
   | _=>exact absurd (show false=true from hs) Bool.false_ne_true
 | bl i=>
   cases rx
   cases y with
   | non=>cases ry;exact PySem.EqNone.eq_bool_none (fin_bl I q (by simp))
   | bl j=>cases ry;exact eq_bool (fin_bl I q dec_bl)
   | str j=>obtain ⟨t',rfl⟩:=ry;exact PySem.EqMixed.eq_bool_str (fin_bl I q (by simp))
   | _=>exact absurd (show false=true from hs) Bool.false_ne_true
 | int i=>
   obtain ⟨t,rfl⟩:=rx
   cases y with
   | non=>cases ry;exact PySem.EqNone.eq_int_none (fin_bl I q (by simp))
   | int j=>obtain ⟨t',rfl⟩:=ry;exact eq_int (fin_bl I q dec_int)
   | str j=>obtain ⟨t',rfl⟩:=ry;exact PySem.EqMixed.eq_int_str (fin_bl I q (by simp))
   | _=>exact absurd (show false=true from hs) Bool.false_ne_true
 | str i=>
   obtain ⟨t,rfl⟩:=rx
   cases y with
   | non=>cases ry;exact PySem.EqNone.eq_str_none (fin_bl I q (by simp))
   | bl j=>cases ry;exact PySem.EqMixed.eq_str_bool (fin_bl I q (by simp))
   | int j=>obtain ⟨t',rfl⟩:=ry;exact PySem.EqMixed.eq_str_int (fin_bl I q (by simp))
   | str j=>obtain ⟨t',rfl⟩:=ry;exact eq_str (fin_bl I q dec_str)
   | _=>exact absurd (show false=true from hs) Bool.false_ne_true
 | byt i=>
   obtain ⟨t,rfl⟩:=rx
   cases y with
   | byt j=>obtain ⟨t',rfl⟩:=ry;exact PySem.W.eq_bytes (fin_bl I q dec_byt)
   | _=>exact absurd (show false=true from hs) Bool.false_ne_true
 | _=>cases y<;>exact absurd (show false=true from hs) Bool.false_ne_true
theorem op_ne:OpR X (compareOp .NotEq) rNe:=by
 intro pins s σ H x y v u Q I rx ry h
 obtain ⟨hs,q⟩:=h
 cases x with
 | non=>
   cases rx
   cases y with
   | non=>cases ry;exact PySem.EqNone.ne_none_none (fin_bl I q (by simp))
   | bl j=>cases ry;exact PySem.EqNone.ne_none_bool (fin_bl I q (by simp))
   | int j=>obtain ⟨t',rfl⟩:=ry;exact PySem.EqNone.ne_none_int (fin_bl I q (by simp))
   | str j=>obtain ⟨t',rfl⟩:=ry;exact PySem.EqNone.ne_none_str (fin_bl I q (by simp))
   | _=>exact absurd (show false=true from hs) Bool.false_ne_true
 | bl i=>
   cases rx
   cases y with
   | non=>cases ry;exact PySem.EqNone.ne_bool_none (fin_bl I q (by simp))
   | bl j=>cases ry;exact ne_bool (fin_bl I q (congrArg not dec_bl))
   | str j=>obtain ⟨t',rfl⟩:=ry;exact PySem.EqMixed.ne_bool_str (fin_bl I q (by simp))
   | _=>exact absurd (show false=true from hs) Bool.false_ne_true
 | int i=>
   obtain ⟨t,rfl⟩:=rx
   cases y with
   | non=>cases ry;exact PySem.EqNone.ne_int_none (fin_bl I q (by simp))
   | int j=>obtain ⟨t',rfl⟩:=ry;exact ne_int (fin_bl I q (congrArg not dec_int))
   | str j=>obtain ⟨t',rfl⟩:=ry;exact PySem.EqMixed.ne_int_str (fin_bl I q (by simp))
   | _=>exact absurd (show false=true from hs) Bool.false_ne_true
 | str i=>
   obtain ⟨t,rfl⟩:=rx
   cases y with
   | non=>cases ry;exact PySem.EqNone.ne_str_none (fin_bl I q (by simp))
   | bl j=>cases ry;exact PySem.EqMixed.ne_str_bool (fin_bl I q (by simp))
   | int j=>obtain ⟨t',rfl⟩:=ry;exact PySem.EqMixed.ne_str_int (fin_bl I q (by simp))
   | str j=>obtain ⟨t',rfl⟩:=ry;exact ne_str (fin_bl I q (congrArg not dec_str))
   | _=>exact absurd (show false=true from hs) Bool.false_ne_true
 | byt i=>
   obtain ⟨t,rfl⟩:=rx
   cases y with
   | byt j=>obtain ⟨t',rfl⟩:=ry;exact PySem.W.ne_bytes (fin_bl I q (congrArg not dec_byt))
   | _=>exact absurd (show false=true from hs) Bool.false_ne_true
 | _=>cases y<;>exact absurd (show false=true from hs) Bool.false_ne_true
theorem op_lt:OpR X (compareOp .Lt) (rI0 fun i j=>.bl (decide (i<j))):=opB0 fun _ _ _ _ _ _ _ q=>lt_int q
theorem op_le:OpR X (compareOp .LtE) (rI0 fun i j=>.bl (decide (i≤j))):=opB0 fun _ _ _ _ _ _ _ q=>le_int q
theorem op_gt:OpR X (compareOp .Gt) (rI0 fun i j=>.bl (decide (j<i))):=opB0 fun _ _ _ _ _ _ _ q=>gt_int q
theorem op_ge:OpR X (compareOp .GtE) (rI0 fun i j=>.bl (decide (j≤i))):=opB0 fun _ _ _ _ _ _ _ q=>ge_int q
theorem op_notN:OpR X (compareOp .IsNot) (fun x y H Q=>y=.non∧Q (.bl (!decide (x=.non))) H):=by
 intro pins s σ H x y v u Q I rx ry h
 obtain ⟨rfl,q⟩:=h
 cases ry
 refine isnot_none_gen (fin_bl I q ?_)
 cases x<;>first
  | (cases rx;rfl)
  | (obtain ⟨t,rfl⟩:=rx;rfl)
theorem OpR.or {f:Value->Value->Sem Value}{r r':R2} (h:OpR X f r) (h':OpR X f r'):OpR X f (fun x y H Q=>r x y H Q∨r' x y H Q):=by
 intro pins s σ H x y v u Q I rx ry q
 rcases q with q | q
 ·exact h pins s σ H x y v u Q I rx ry q
 ·exact h' pins s σ H x y v u Q I rx ry q
theorem nomark (b:Expr) {op:CmpOp} (h:op≠.In:=by decide) (h2:op≠.NotIn:=by decide):behindInMarks op b=false:=by
 have e1:(op == CmpOp.In)=false:=by cases op<;>first | rfl | exact absurd rfl h
 have e2:(op == CmpOp.NotIn)=false:=by cases op<;>first | rfl | exact absurd rfl h2
 cases b<;>simp [behindInMarks,e1,e2]
theorem pe_cmpR {op:CmpOp}{r:R2} (ho:OpR X (compareOp op) r) (ha:PE X a ta) (hb:PE X b tb) (hm:behindInMarks op b=false):PE X (.Compare a [op] [b] pos) (tOp r ta tb):=by
 intro pins s σ H Q I h
 exact wpAny_Compare1 (binT ha hb I h fun v u s2 x y H2 I2 rx ry q=>ho pins s2 σ H2 x y v u Q I2 rx ry q) hm
def tTest (t:TE):TT:=fun σ H Q=>t σ H fun x H'=>∃ k,x=.bl k∧Q k H'
theorem pt_cmpR {op:CmpOp}{r:R2} (ho:OpR X (compareOp op) r) (ha:PE X a ta) (hb:PE X b tb) (hm:behindInMarks op b=false):PT X (.Compare a [op] [b] pos) (tTest (tOp r ta tb)):=by
 intro pins s σ H Q I h
 refine wpAny_isTrue_Compare1 (thn (ha pins s σ H _ I h) fun v s1 ⟨x,H1,I1,r1,q1⟩=>thn (hb pins s1 σ H1 _ I1 q1) fun u s2 ⟨y,H2,I2,r2,q2⟩=>
  thn (ho pins s2 σ H2 x y v u _ I2 r1 r2 q2) fun c s3 ⟨z,H3,I3,r3,k,e,q3⟩=>?_) hm
 subst e
 cases r3
 exact wpAny_truthy_bool ⟨H3,I3,q3⟩
def tChain (r r':R2) (ta tb tc:TE):TE:=fun σ H Q=>ta σ H fun x H1=>tb σ H1 fun y H2=>r x y H2 fun z H3=>∃ k,z=.bl k ∧
 (if k=true then tc σ H3 fun w' H4=>r' y w' H4 Q else Q (.bl false) H3)
theorem pt_chain {op op':CmpOp}{r r':R2} (ho:OpR X (compareOp op) r) (ho':OpR X (compareOp op') r') (ha:PE X a ta) (hb:PE X b tb) (hc:PE X c tc)
  (hm:lastMarks [op,op'] [b,c]=false:=by with_unfolding_all rfl):PT X (.Compare a [op,op'] [b,c] pos) (tTest (tChain r r' ta tb tc)):=by
 intro pins s σ H Q I h
 refine isTrue_chain (thn (ha pins s σ H _ I h) fun v s1 ⟨x,H1,I1,r1,q1⟩=>test_link (thn (hb pins s1 σ H1 _ I1 q1) fun u s2 ⟨y,H2,I2,r2,q2⟩=>
  thn (ho pins s2 σ H2 x y v u _ I2 r1 r2 q2) fun d s3 ⟨z,H3,I3,r3,k,e,q3⟩=>?_)) hm
 subst e
 cases r3
 refine wpAny_truthy_bool ?_
 cases k with
 | false=>
   obtain ⟨k',e',q'⟩:=q3
   cases e'
   exact ite_ff ⟨H3,I3,q'⟩
 | true=>
   refine ite_tt (test_last (thn (hc pins s3 σ H3 _ I3 q3) fun w' s4 ⟨z',H4,I4,r4,q4⟩=>thn (ho' pins s4 σ H4 y z' u w' _ I4 r2 r4 q4) fun d' s5 ⟨z2,H5,I5,r5,k2,e2,q5⟩=>?_))
   subst e2
   cases r5
   exact wpAny_truthy_bool ⟨H5,I5,q5⟩
def TruV (K:PySem.W.Frag) (x:V) (H:Hp) (k:Bool):Prop:=
 match x with
 | .non=>k=false
 | .bl b=>k=b
 | .int i=>k=(i != 0)
 | .str y=>y.length≤sizeLine∧k=((y.length:Int) != 0)
 | .byt y=>y.size≤sizeLine∧k=((y.size:Int) != 0)
 | .ref p=>(∃ xs,SqL K H p xs∧k=!xs.isEmpty)∨(∃ xs,SqT K H p xs∧k=!xs.isEmpty)∨∃ kvs,H p=some (.dK kvs)∧k=!kvs.isEmpty
 | _=>False
theorem isEmpty_kv {κ:Type}{kvs:List (κ×V)}{vs:List (κ×Value)} (r:KV kvs vs):(!vs.isEmpty)=!kvs.isEmpty:=by
 cases r<;>rfl
theorem isEmpty_of {xs:List V}{its:List Value} (r:Vals xs its):(!its.toArray.isEmpty)=!xs.isEmpty:=by
 cases r<;>simp
theorem line63:(sizeLine:Nat)<2 ^ 63:=by rw [sizeLine_eq];decide
theorem tru_ok:TruR X (fun x H Q=>∃ k,TruV X.K x H k∧Q k H):=by
 intro pins s σ H x v Q I rx h
 obtain ⟨k,e,q⟩:=h
 have hl:=line63
 have hs:sizeLine=16777216:=sizeLine_eq
 cases x with
 | non=>
   cases rx
   have e':k=false:=e
   subst e'
   exact truthy_none ⟨H,I,q⟩
 | bl b=>
   cases rx
   have e':k=b:=e
   subst e'
   exact wpAny_truthy_bool ⟨H,I,q⟩
 | int i=>
   obtain ⟨t,rfl⟩:=rx
   have e':k=(i != 0):=e
   subst e'
   exact PySem.P.truthy_int ⟨H,I,q⟩
 | str y=>
   obtain ⟨t,rfl⟩:=rx
   obtain ⟨hy,e'⟩:y.length≤sizeLine∧k=((y.length:Int) != 0):=e
   subst e'
   exact PySem.P.truthy_str (by omega) ⟨H,I.tok _,q⟩
 | byt y=>
   obtain ⟨t,rfl⟩:=rx
   obtain ⟨hy,e'⟩:y.size≤sizeLine∧k=((y.size:Int) != 0):=e
   subst e'
   exact PySem.W.truthy_bytes (by omega) ⟨H,I.tok _,q⟩
 | ref p=>
   cases rx
   have e':(∃ xs,SqL X.K H p xs∧k=!xs.isEmpty)∨(∃ xs,SqT X.K H p xs∧k=!xs.isEmpty)∨∃ kvs,H p=some (.dK kvs)∧k=!kvs.isEmpty:=e
   rcases e' with ⟨xs,hx,e'⟩ | ⟨xs,hx,e'⟩ | ⟨kvs,hx,e'⟩
   ·subst e'
    obtain ⟨its,r,pl,hz⟩:=I.list hx
    have hlen:=r.length
    exact wpAny_truthy_list pl.isList (by simp only [List.size_toArray];omega) ⟨H,I.tok _,by rw [isEmpty_of r];exact q⟩
   ·subst e'
    obtain ⟨its,r,pl,hz⟩:=I.tuple hx
    have hlen:=r.length
    exact truthy_tuple pl (by simp only [List.size_toArray];omega) ⟨H,I.tok _,by rw [isEmpty_of r];exact q⟩
   ·subst e'
    obtain ⟨hz,hS,vs,r,m⟩:kvs.length≤sizeLine∧(p == sysModules)=false∧∃ vs,KV kvs vs∧s.heap.DictOf (mixKind X.prog X.w) p vs:=I.hok p _ hx
    have hlen:kvs.length=vs.length:=Paired.length r
    exact wpAny_truthy_dict hS m (by omega) ⟨H,I.tok _,by rw [isEmpty_kv r];exact q⟩
 | _=>exact (show False from e).elim
theorem pt_truth (ha:PE X a ta) (he:∀ whole,isTrue a X.env whole=(do let v ←whole;standAt a.pos;holding [v] (truthy v))) :
  PT X a (fun σ H Q=>ta σ H fun x H'=>∃ k,TruV X.K x H' k∧Q k H'):=by
 intro pins s σ H Q I h
 exact isTrue_plain (thn (ha pins s σ H _ I h) fun v s1 ⟨x,H1,I1,r1,q1⟩=>tru_ok pins s1 σ H1 x v Q I1 r1 q1) (he _)
theorem op_add_str:OpR X (binaryOp .Add) (fun x y H Q=>∃ i j,x=.str i∧y=.str j∧i.length + j.length≤sizeLine∧Q (.str (i++j)) H):=by
 intro pins s σ H x y v u Q I rx ry h
 obtain ⟨i,j,rfl,rfl,hz,q⟩:=h
 obtain ⟨t,rfl⟩:=rx
 obtain ⟨t',rfl⟩:=ry
 exact add_str (fun t' tk=>⟨.str (i++j),H,I.tok _,⟨_,rfl⟩,q⟩) hz
theorem vals1 {x:V}{us:List Value} (r:Vals [x] us):∃ u,us=[u]∧RelV x u:=by
 cases r with
 | cons r1 r2=>cases r2;exact ⟨_,rfl,r1⟩
theorem vals2 {x y:V}{us:List Value} (r:Vals [x,y] us):∃ u w',us=[u,w']∧RelV x u∧RelV y w':=by
 cases r with
 | cons r1 r2=>
   cases r2 with
   | cons r3 r4=>cases r4;exact ⟨_,_,rfl,r1,r3⟩
theorem call_max2 (hc:X.calm=true):CallR X (.builtin "max") (fun xs H Q=>∃ i j,xs=[.int i,.int j]∧Q (.int (if j > i then j else i)) H):=by
 intro pins s σ H xs us Q I r h
 obtain ⟨i,j,rfl,q⟩:=h
 obtain ⟨u,w',rfl,⟨t,rfl⟩,⟨t',rfl⟩⟩:=vals2 r
 refine max_two_ints (I.ok.hd hc) fun h' tk k=>⟨_,H,I.kept k,?_,q⟩
 by_cases hj:j > i
 ·rw [if_pos hj,if_pos hj];exact ⟨_,rfl⟩
 ·rw [if_neg hj,if_neg hj];exact ⟨_,rfl⟩
theorem call_min2 (hc:X.calm=true):CallR X (.builtin "min") (fun xs H Q=>∃ i j,xs=[.int i,.int j]∧Q (.int (if j<i then j else i)) H):=by
 intro pins s σ H xs us Q I r h
 obtain ⟨i,j,rfl,q⟩:=h
 obtain ⟨u,w',rfl,⟨t,rfl⟩,⟨t',rfl⟩⟩:=vals2 r
 refine min_two_ints (I.ok.hd hc) fun h' tk k=>⟨_,H,I.kept k,?_,q⟩
 by_cases hj:j<i
 ·rw [if_pos hj,if_pos hj];exact ⟨_,rfl⟩
 ·rw [if_neg hj,if_neg hj];exact ⟨_,rfl⟩
end
open PySem PySem.Spec PyProof.Rows
structure ObjM (h:Heap) (x dx C:Addr) (mA:Str->Option Value):Prop where
 obj:h.get? x=some (PySem.W.instObj C dx)
 ns:h.Ns1 dx mA
 ne:dx≠x
theorem lookIn_ns {h:Heap}{dx:Addr}{mA:Str->Option Value} (n:h.Ns1 dx mA):∃ od,h.get? dx=some od∧∀ name,PySem.W.lookIn name od=some (mA name):=by
 obtain ⟨o,es,ep,ho,hd,hk,_,hm⟩:=n
 refine ⟨o,ho,fun name=>?_⟩
 have e:=hm name
 unfold nsFind findBy at e
 rw [←Array.find?_toList] at e
 unfold PySem.W.lookIn
 rw [hd]
 dsimp only
 split
 ·rename_i y q
  rw [q] at e
  exact congrArg some e
 ·rename_i q
  rw [q] at e
  have a:es.toList.any (·.refKey)=false:=by
   rw [List.any_eq_false]
   intro y hy
   obtain ⟨z,t,hkey⟩:=hk y (Array.mem_toList_iff.mp hy)
   simp [DictEntry.refKey,hkey]
  have a':¬ es.toList.any (·.refKey)=true:=by rw [a];exact Bool.false_ne_true
  rw [if_neg a']
  exact congrArg some e
theorem ObjM.look {h:Heap}{x dx C:Addr}{mA:Str->Option Value} (I:ObjM h x dx C mA):∃ od,PySem.W.InstAt h x (PySem.W.instObj C dx) C (some od)∧∀ name,PySem.W.lookIn name od=some (mA name):=
 let ⟨od,ho,hl⟩:=lookIn_ns I.ns
 ⟨od,⟨I.obj,rfl,rfl,ho⟩,hl⟩
section
variable {prog:Program}{w:World}{A:Around}{E:Value->Shared->Prop}{s:Shared}{K:PySem.W.Frag}{x dx C f:Addr}{mA:Str->Option Value}{name:Str}{v:Value}
theorem get_map {expr:Bool}{Q:Value->Shared->Prop} (X:K.In s.heap) (I:ObjM s.heap x dx C mA) (hg:PySem.W.plainGet K C name=true) (hh:PySem.W.hasDictIn K C=true)
  (ha:PySem.W.findIn K (.ref C) name=some none) (hv:mA name=some v) (hv':PySem.W.handedIn v=true) (h:Q v { s with toks:=s.toks + 1 }) :
  wpAny (model prog w) A (getAttr (.ref x) name expr) Q E s:=by
 obtain ⟨od,J,hl⟩:=I.look
 exact PySem.W.get_value X J (PySem.W.plainGet_of hg).1 (PySem.W.findObj_own hh ha rfl (by rw [hl,hv])) hv' h
theorem set_map {ns:List Str}{Q:Unit->Shared->Prop} (X:K.In s.heap) (I:ObjM s.heap x dx C mA)
  (hs:PySem.W.findIn K (.ref C) "__setattr__"=some (some (.builtin "object.__setattr__"))) (hp:PySem.W.plainOver K C=true) (ht:PySem.W.takerIn K C name=some none) (hh:PySem.W.hasDictIn K C=true)
  (hw:PySem.Within mA ns) (hsz:ns.length≤sizeLine)
  (h:∀ h',ObjM h' x dx C (fun y=>if y=name then some v else mA y)->Heap.SameBut dx s.heap h'->Q () { s with heap:=h',toks:=s.toks + 2 }) :
  wpAny (model prog w) A (setAttr (.ref x) name v) Q E s:=by
 obtain ⟨od,J,hl⟩:=I.look
 refine PySem.W.set_plain X J hs (PySem.W.osa_open (s:={ s with toks:=s.toks + 1 }) (r:=none) X J hp ht fun b=>?_)
 obtain ⟨cd,hc,hd'⟩:=PySem.W.any_some hh
 have hx:s.heap.get? x=some ⟨.ref C,some dx,.plain,#[]⟩:=I.obj
 refine wpAny_bind (wpAny_pure (wpAny_bind (wpAny_bind (wpAny_loadPart hx (wpAny_bind (PySem.W.Looks.here (s:={ s with toks:=s.toks + 1 }) (PySem.W.looks_clsIn X hc) ?_))))))
 rw [hd']
 refine wpAny_pure (a:=some dx) (wpAny_bind (wpAny_pure (wpAny_bind ?_)))
 refine wpAny_nsSet1 (s:={ s with toks:=s.toks + 1 }) I.ns fun h' hn2 hs2=>?_
 obtain ⟨oD,esD,epD,hoD,hdD,hcD⟩:=hn2.count (PySem.Within.cons name v hw)
 refine wpAny_bind (wpAny_lookBehind hoD (by rw [hdD];exact pastItsLine_dict (Nat.le_trans hcD (by rw [List.length_cons];omega))) ?_)
 exact wpAny_pure (h _ ⟨(hs2.2 _ (Ne.symm I.ne)).trans I.obj,hn2,I.ne⟩ hs2)
theorem make_map {R:Result->Shared->Prop}{vs:List Value}{kw:List (Str×Value)} (X:K.In s.heap) (hm:PySem.W.makesIn K C=true)
  (hi:PySem.W.findIn K (.ref C) "__init__"=some (some (.ref f))) (hf:PySem.W.typeIn K (.ref f)=some (.type "function"))
  (h:codeAny (model prog w) (A.under (.builtin "type.__call__" ⟨.ref C::vs,kw⟩)) (.call (.ref f) ⟨.ref (s.heap.objs.size + 1)::vs,kw⟩) (PySem.W.InitBack (s.heap.objs.size + 1) R)
    { s with heap:=(s.heap.push PySem.W.emptyDict).push (PySem.W.instObj C s.heap.objs.size) }) :
  codeAny (model prog w) A (.call (.ref C) ⟨vs,kw⟩) R s:=by
 obtain ⟨hh,g,d,t,os⟩:=s
 exact PySem.W.make_core (PySem.W.makes_of X hm) (PySem.W.looks_findIn X hi) (fun self=>PySem.W.bind_fn X self hf) (.inl rfl) h
end
def putF (f:Str) (v:V):List (Str×V)->List (Str×V)
 | []=>[(f,v)]
 | (g,x)::r=>if g=f then (g,v)::r else (g,x)::putF f v r
theorem lookup_putF (f g:Str) (v:V):∀ fs:List (Str×V),(putF f v fs).lookup g=if g=f then some v else fs.lookup g
 | []=>by
   show List.lookup g [(f,v)]=_
   by_cases h:g=f
   ·have hb:(g == f)=true:=beq_iff_eq.mpr h
    simp only [List.lookup,hb,if_pos h]
   ·have hb:(g == f)=false:=beq_eq_false_iff_ne.mpr h
    simp only [List.lookup,hb,if_neg h]
 | (k,x)::r=>by
   have ih:=lookup_putF f g v r
   rw [show putF f v ((k,x)::r)=(if k=f then (k,v)::r else (k,x)::putF f v r) from rfl]
   by_cases hk:k=f
   ·rw [if_pos hk]
    by_cases h:g=k
    ·have hb:(g == k)=true:=beq_iff_eq.mpr h
     simp only [List.lookup,hb,if_pos (h.trans hk)]
    ·have hb:(g == k)=false:=beq_eq_false_iff_ne.mpr h
     simp only [List.lookup,hb,if_neg (fun e:g=f=>h (e.trans hk.symm))]
   ·rw [if_neg hk]
    by_cases h:g=k
    ·have hb:(g == k)=true:=beq_iff_eq.mpr h
     simp only [List.lookup,hb,if_neg (fun e:g=f=>hk (h.symm.trans e))]
    ·have hb:(g == k)=false:=beq_eq_false_iff_ne.mpr h
     simp only [List.lookup,hb]
     exact ih
theorem keys_putF (f:Str) (v:V):∀ fs:List (Str×V),f∈(putF f v fs).map (·.1)∧∀ g,g∈fs.map (·.1)->g∈(putF f v fs).map (·.1)
 | []=>⟨by simp [putF],fun g h=>by simp at h⟩
 | (k,x)::r=>by
   obtain ⟨i1,i2⟩:=keys_putF f v r
   rw [show putF f v ((k,x)::r)=(if k=f then (k,v)::r else (k,x)::putF f v r) from rfl]
   by_cases hk:k=f
   ·rw [if_pos hk]
    subst hk
    exact ⟨by simp,fun g h=>by simpa using h⟩
   ·rw [if_neg hk]
    refine ⟨?_,fun g h=>?_⟩
    ·rw [List.map_cons]
     exact List.mem_cons_of_mem _ i1
    ·rw [List.map_cons] at h ⊢
     rcases List.mem_cons.mp h with e | e
     ·exact List.mem_cons.mpr (.inl e)
     ·exact List.mem_cons_of_mem _ (i2 g e)
theorem length_putF (f:Str) (v:V):∀ fs:List (Str×V),(putF f v fs).length≤fs.length + 1
 | []=>by simp [putF]
 | (k,x)::r=>by
   have ih:=length_putF f v r
   rw [show putF f v ((k,x)::r)=(if k=f then (k,v)::r else (k,x)::putF f v r) from rfl]
   by_cases hk:k=f
   ·rw [if_pos hk,List.length_cons,List.length_cons];omega
   ·rw [if_neg hk,List.length_cons,List.length_cons];omega
theorem RelO.some_of {v:V}{o:Option Value} (r:RelO (some v) o):∃ u,o=some u∧RelV v u:=by
 cases o with
 | none=>exact (show False from r).elim
 | some u=>exact ⟨u,rfl,r⟩
theorem handed_of {v:V}{u:Value} (r:RelV v u):PySem.W.handedIn u=true:=by
 cases v with
 | non=>cases (show u=Value.none from r);rfl
 | bl b=>cases (show u=Value.bool b from r);rfl
 | int i=>obtain ⟨t,e⟩:=(show ∃ t,u=Value.int i t from r);cases e;rfl
 | str x=>obtain ⟨t,e⟩:=(show ∃ t,u=Value.str x t from r);cases e;rfl
 | byt b=>obtain ⟨t,e⟩:=(show ∃ t,u=Value.bytes b t from r);cases e;rfl
 | flt b=>obtain ⟨t,e⟩:=(show ∃ t,u=Value.float b t from r);cases e;rfl
 | ref a=>cases (show u=Value.ref a from r);rfl
 | ty n=>cases (show u=Value.type n from r);rfl
section
variable {P:Program}{w:World}{H H':Hp}{h h':Heap}{a C dx:Addr}{fs fs':List (Str×V)}
theorem ins_get (hok:HOk P w H h) (e:H a=some (.ins C dx fs)):∃ mA,ObjM h a dx C mA∧(∀ f,RelO (fs.lookup f) (mA f))∧PySem.Within mA (fs.map (·.1))∧fs.length≤1000∧H dx=some (.own a):=by
 obtain ⟨d,z,ne,ob,mA,n,r,q⟩:=(show ObjOk P w H h a (.ins C dx fs) from hok a _ e)
 exact ⟨mA,⟨ob,n,ne⟩,r,q,z,d⟩
end
structure Cls (K:PySem.W.Frag) (C:Addr):Prop where
 pg:PySem.W.plainGet K C Str.empty=true
 hd:PySem.W.hasDictIn K C=true
 po:PySem.W.plainOver K C=true
 sa:PySem.W.findIn K (.ref C) "__setattr__"=some (some (.builtin "object.__setattr__"))
theorem Cls.get {K:PySem.W.Frag}{C:Addr} (c:Cls K C) (f:Str):PySem.W.plainGet K C f=true:=c.pg
def NoAttr (K:PySem.W.Frag) (C:Addr) (f:Str):Prop:=PySem.W.findIn K (.ref C) f=some none
theorem NoAttr.taker {K:PySem.W.Frag}{C:Addr}{f:Str} (n:NoAttr K C f):PySem.W.takerIn K C f=some none:=by
 unfold PySem.W.takerIn
 rw [show PySem.W.findIn K (.ref C) f=some none from n]
 rfl
section
variable {X:Cx}{pins:List (Addr×Obj)}{σ:St}{H:Hp}{s:Shared}{a C dx:Addr}{fs:List (Str×V)}{f:Str}{v:V}{A:Around}{E:Value->Shared->Prop}
theorem getattr_ok {b:Bool}{Q:Value->Shared->Prop} (I:Inv X pins σ H s) (e:H a=some (.ins C dx fs)) (c:Cls X.K C) (n:NoAttr X.K C f) (l:fs.lookup f=some v)
  (h:∀ u s',Inv X pins σ H s'->RelV v u->Q u s'):wpAny (model X.prog X.w) A (getAttr (.ref a) f b) Q E s:=by
 obtain ⟨mA,O,r,_,_,_⟩:=ins_get I.hok e
 obtain ⟨u,hu,ru⟩:=RelO.some_of (v:=v) (o:=mA f) (by rw [←l];exact r f)
 exact get_map I.kIn O (c.get f) c.hd n hu (handed_of ru) (h u _ (I.tok _) ru)
theorem setattr_ok {y:V}{u:Value}{Q:Unit->Shared->Prop} (I:Inv X pins σ H s) (e:H a=some (.ins C dx fs)) (c:Cls X.K C) (n:NoAttr X.K C f) (hl:fs.length<1000) (ry:RelV y u)
  (h:∀ s',Inv X pins σ (upd H a (.ins C dx (putF f y fs))) s'->Q () s'):wpAny (model X.prog X.w) A (setAttr (.ref a) f u) Q E s:=by
 obtain ⟨mA,O,r,wi,_,ho⟩:=ins_get I.hok e
 have hz:(fs.map (·.1)).length≤sizeLine:=by rw [List.length_map,sizeLine_eq];omega
 refine set_map I.kIn O c.sa c.po n.taker c.hd wi hz fun h' O' sb=>h _ ?_
 have hd:∃ o,h'.get? dx=some o:=let ⟨o,_,_,e',_⟩:=O'.ns;⟨o,e'⟩
 refine I.write (x:=a) (e:=dx) (by rw [e];exact True.intro) (.inr ho) (fun b q hb z=>(sb.2 b hb).trans z) hd ?_
 refine ⟨by rw [upd_ne O.ne];exact ho,?_,O.ne,O'.obj,_,O'.ns,fun g=>?_,fun g hg=>?_⟩
 ·have:=length_putF f y fs;omega
 ·show RelO ((putF f y fs).lookup g) (if g=f then some u else mA g)
  rw [lookup_putF]
  by_cases q:g=f
  ·rw [if_pos q,if_pos q];exact ry
  ·rw [if_neg q,if_neg q];exact r g
 ·by_cases q:g=f
  ·rw [q];exact (keys_putF f y fs).1
  ·refine (keys_putF f y fs).2 g (wi g fun z=>hg ?_)
   show (if g=f then some u else mA g)=none
   rw [if_neg q];exact z
theorem Inv.made (I:Inv X pins σ H s):Inv X pins σ (upd (upd H s.heap.objs.size (.own (s.heap.objs.size + 1))) (s.heap.objs.size + 1) (.ins C s.heap.objs.size []))
  { s with heap:=(s.heap.push PySem.W.emptyDict).push (PySem.W.instObj C s.heap.objs.size) }:=by
 have e1:(s.heap.push PySem.W.emptyDict).get? s.heap.objs.size=some PySem.W.emptyDict:=Heap.get?_push_size s.heap rfl
 have e2:((s.heap.push PySem.W.emptyDict).push (PySem.W.instObj C s.heap.objs.size)).get? (s.heap.objs.size + 1)=some (PySem.W.instObj C s.heap.objs.size):=by
  have:=Heap.get?_push_size (s.heap.push PySem.W.emptyDict) (o:=PySem.W.instObj C s.heap.objs.size) rfl
  rwa [Heap.size_push] at this
 have e3:(s.heap.push PySem.W.emptyDict).Ns s.heap.objs.size (fun _=>none):=⟨PySem.W.emptyDict,#[],_,e1,rfl,(fun e he=>absurd he (by simp)),fun _=>rfl⟩
 have I1:=I.laid (a:=s.heap.objs.size) (o:=.own (s.heap.objs.size + 1)) (h':=s.heap.push PySem.W.emptyDict) (t':=s.toks) (fun b u q=>Heap.get?_push_of_some _ q) (Nat.le_refl _) ⟨_,e1⟩
 refine I1.laid (a:=s.heap.objs.size + 1) (o:=.ins C s.heap.objs.size []) (t':=s.toks) (fun b u q=>Heap.get?_push_of_some _ q) (Nat.le_of_eq (Heap.size_push _ _)) ?_
 have ne:s.heap.objs.size≠s.heap.objs.size + 1:=Nat.ne_of_lt (Nat.lt_succ_self _)
 refine ⟨by rw [upd_ne ne,upd_same],Nat.zero_le _,ne,e2,fun _=>none,(Heap.Ns1.of_empty e3).at fun o q=>Heap.get?_push_of_some _ q,fun _=>True.intro,fun y hy=>absurd rfl hy⟩
theorem attr_of {prog:Program}{w:World}{env:Env}{e:Expr}{f:Str}{pos:Pos}{s:Shared}{Q:Value->Shared->Prop} (hb:attributeBase e f env (eval e env)=eval e env)
  (h:wpAny (model prog w) A (eval e env) (fun o s₁=>wpAny (model prog w) A (getAttr o f true) Q E s₁) E s):wpAny (model prog w) A (eval (.Attribute e f pos) env) Q E s:=
 Attribute_any_ h (by rw [arm_eval_Attribute,hb])
end
def tFld (K:PySem.W.Frag) (ta:TE) (f:Str):TE:=fun σ H Q=>ta σ H fun x H1=>∃ a C dx fs v,x=.ref a∧H1 a=some (.ins C dx fs)∧Cls K C∧NoAttr K C f∧fs.lookup f=some v∧Q v H1
def sFld (K:PySem.W.Frag) (ta tv:TE) (f:Str):TS:=fun D σ H=>tv σ H fun y H1=>ta σ H1 fun x H2=>∃ a C dx fs,x=.ref a∧H2 a=some (.ins C dx fs)∧Cls K C∧NoAttr K C f∧fs.length<1000 ∧
 D.nx σ (upd H2 a (.ins C dx (putF f y fs)))
section
variable {X:Cx}{o e value:Expr}{f:Str}{pos pos' tpos:Pos}{ta tv:TE}
theorem pe_fld (he:PE X e ta) (hb:attributeBase e f X.env (eval e X.env)=eval e X.env):PE X (.Attribute e f pos) (tFld X.K ta f):=by
 intro pins s σ H Q I h
 refine attr_of hb (thn (he pins s σ H _ I h) fun u s1 ⟨x,H1,I1,rx,a,C,dx,fs,v,ex,ea,c,n,l,q⟩=>?_)
 subst ex
 obtain rfl:u=Value.ref a:=rx
 exact getattr_ok I1 ea c n l fun u' s2 I2 ru=>⟨v,H1,I2,ru,q⟩
theorem ps_fld (ha:PE X o ta) (hv:PE X value tv) (hs:swapsWith value (some (.Attribute o f pos')) pos.line X.env=pure false):PS X (.Assign [.Attribute o f pos'] value pos) (sFld X.K ta tv f):=by
 intro pins s σ H D I h
 refine plainObj_wpAny_Assign_Attribute (thn (hv pins s σ H _ I h) fun u s1 ⟨y,H1,I1,ry,q⟩=>thn (ha pins s1 σ H1 _ I1 q) fun ov s2 ⟨x,H2,I2,rx,a,C,dx,fs,ex,ea,c,n,l,q2⟩=>?_) hs
 subst ex
 obtain rfl:ov=Value.ref a:=rx
 exact setattr_ok I2 ea c n l ry fun s3 I3=>⟨σ,_,I3,q2⟩
end
section
variable {X:Cx}{pins:List (Addr×Obj)}{σ:St}{H:Hp}{s:Shared}{A:Around}{E:Value->Shared->Prop}{Q:Value->Shared->Prop}{c:Value}{b:Bool}
inductive TyOf (K:PySem.W.Frag) (H:Hp):V->Value->Prop where
 | non:TyOf K H .non (.type "NoneType")
 | bl (x:Bool):TyOf K H (.bl x) (.type "bool")
 | int (i:Int):TyOf K H (.int i) (.type "int")
 | str (x:Str):TyOf K H (.str x) (.type "str")
 | flt (x:UInt64):TyOf K H (.flt x) (.type "float")
 | lst {a:Addr}{xs:List V} (e:H a=some (.lst xs)):TyOf K H (.ref a) (.type "list")
 | frz {a:Addr}{o:Obj}{xs:List V} (e:H a=some (.frz o (.lst xs))):TyOf K H (.ref a) (.type "list")
 | tup {a:Addr}{xs:List V} (e:H a=some (.tup xs)):TyOf K H (.ref a) (.type "tuple")
 | dK {a:Addr}{kvs:List (Key×V)} (e:H a=some (.dK kvs)):TyOf K H (.ref a) (.type "dict")
 | dT {a:Addr}{kvs:List (List Key×V)} (e:H a=some (.dT kvs)):TyOf K H (.ref a) (.type "dict")
 | ins {a C dx:Addr}{fs:List (Str×V)} (e:H a=some (.ins C dx fs)) (cl:Cls K C) (ha:PySem.W.findIn K (.ref C) "__class__"=some (some (.builtin "object.__class__")))
   (hn:PySem.W.specialIn K (.builtin "object.__class__") "__get__"=some (some (.builtin "getset_descriptor.__get__"))) (htk:PySem.W.takesIn K (.builtin "object.__class__")=some true)
   (hm:PySem.W.mroIn K C (.type "object")=some true):TyOf K H (.ref a) (.ref C)
theorem isinst_ok {x:V}{u t:Value} (I:Inv X pins σ H s) (rx:RelV x u) (ty:TyOf X.K H x t) (e:PySem.W.kitOne X.K t c=some b) (h:∀ tk,Q (.bool b) { s with toks:=tk }) :
  wpAny (model X.prog X.w) A (call (.builtin "isinstance") [u,c]) Q E s:=by
 cases ty with
 | non=>cases (show u=Value.none from rx);exact PySem.W.kia_one PySem.W.kitx_none I.kIn True.intro e (fun z=>nomatch z) h
 | bl y=>cases (show u=Value.bool y from rx);exact PySem.W.kia_one PySem.W.kitx_bool I.kIn True.intro e (fun z=>nomatch z) h
 | int i=>obtain ⟨t,q⟩:=(show ∃ t,u=Value.int i t from rx);cases q;exact PySem.W.kia_one PySem.W.kitx_int I.kIn True.intro e (fun z=>nomatch z) h
 | str y=>obtain ⟨t,q⟩:=(show ∃ t,u=Value.str y t from rx);cases q;exact PySem.W.kia_one PySem.W.kitx_str I.kIn True.intro e (fun z=>nomatch z) h
 | flt y=>obtain ⟨t,q⟩:=(show ∃ t,u=Value.float y t from rx);cases q;exact PySem.W.kia_one PySem.W.kitx_float I.kIn True.intro e (fun z=>nomatch z) h
 | @lst a xs ea=>
   cases (show u=Value.ref a from rx)
   obtain ⟨_,_,n,_,h1⟩:=(show ObjOk X.prog X.w H s.heap a (.lst xs) from I.hok a _ ea)
   exact PySem.W.kia_one PySem.W.kitx_list I.kIn ⟨_,h1,rfl⟩ e (fun z=>nomatch z) h
 | @frz a ob xs ea=>
   cases (show u=Value.ref a from rx)
   obtain ⟨_,_,_,n,_,h1⟩:=(show ObjOk X.prog X.w H s.heap a (.frz ob (.lst xs)) from I.hok a _ ea)
   exact PySem.W.kia_one PySem.W.kitx_list I.kIn ⟨_,h1,rfl⟩ e (fun z=>nomatch z) h
 | @tup a xs ea=>
   cases (show u=Value.ref a from rx)
   obtain ⟨_,_,_,p⟩:=(show ObjOk X.prog X.w H s.heap a (.tup xs) from I.hok a _ ea)
   obtain ⟨o,h1,h2,_⟩:=p
   exact PySem.W.kia_one PySem.W.kitx_tuple I.kIn ⟨o,h1,h2⟩ e (fun z=>nomatch z) h
 | @dK a kvs ea=>
   cases (show u=Value.ref a from rx)
   obtain ⟨_,_,vs,_,p⟩:=(show ObjOk X.prog X.w H s.heap a (.dK kvs) from I.hok a _ ea)
   obtain ⟨o,es,ep,h1,h2,_⟩:=p
   exact PySem.W.kia_one PySem.W.kitx_dict I.kIn ⟨o,h1,h2.1⟩ e (fun z=>nomatch z) h
 | @dT a kvs ea=>
   cases (show u=Value.ref a from rx)
   obtain ⟨_,_,xs,_,o,es,ep,h1,h2,_⟩:=(show ObjOk X.prog X.w H s.heap a (.dT kvs) from I.hok a _ ea)
   exact PySem.W.kia_one PySem.W.kitx_dict I.kIn ⟨o,h1,h2.1⟩ e (fun z=>nomatch z) h
 | @ins a C dx fs ea cl ha hn htk hm=>
   cases (show u=Value.ref a from rx)
   obtain ⟨mA,O,_⟩:=ins_get I.hok ea
   obtain ⟨od,J,_⟩:=O.look
   exact PySem.W.kia_one (PySem.W.kitx_own (cl.get _) cl.hd ha hn htk hm) I.kIn J e (fun z=>nomatch z) h
end
open PySem PySem.Spec PyProof.Rows
structure Room (k:Nat) (A:Around):Prop where
 hd:A.handled=none
 dp:A.depth + 3 * k + 5<recursionLimit
 un:A.units + 16 * k + 200<cLine
 gd:A.guards=some []
theorem Room.mono {j k:Nat}{A:Around} (r:Room k A) (h:j≤k):Room j A:=⟨r.hd,by have:=r.dp;omega,by have:=r.un;omega,r.gd⟩
theorem Room.deeper {k:Nat}{A:Around} (r:Room (k + 1) A) (env:Env):Room k (A.deeper env):=
 ⟨r.hd,by have:=r.dp;show A.depth + 1 + 3 * k + 5<_;omega,by have:=r.un;show A.units + 3 + 16 * k + 200<_;omega,r.gd⟩
theorem make_depth {A:Around}{C:Addr}{us:List Value}{kw:List (Str×Value)}:(A.under (.builtin "type.__call__" ⟨.ref C::us,kw⟩)).depth=A.depth + 1:=by
 first | rfl | simp [Around.under,Code.weight,Code.isCreation,Code.isGuard,Code.isCaller,Code.frames,Code.isFrame,guardIds]
theorem make_units {A:Around}{C:Addr}{us:List Value}{kw:List (Str×Value)}:(A.under (.builtin "type.__call__" ⟨.ref C::us,kw⟩)).units=A.units + 1:=by
 first | rfl | simp [Around.under,Code.cUnits,Code.frames,Code.isFrame]
theorem uz {A:Around}{C:Addr}{us:List Value}{kw:List (Str×Value)}:(A.under (.builtin "type.__call__" ⟨.ref C::us,kw⟩)).guards=A.guards:=by
 simp [Around.under,Code.guards,Code.isGuard,guardIds,pushGuards]
theorem Room.make {k:Nat}{A:Around} (r:Room (k + 1) A) (C:Addr) (us:List Value) (kw:List (Str×Value)):Room k (A.under (.builtin "type.__call__" ⟨.ref C::us,kw⟩)):=
 ⟨r.hd,by have:=r.dp;rw [make_depth];omega,by have:=r.un;rw [make_units];omega,by first | (rw [uz];exact r.gd) | exact r.gd⟩
theorem Room.depth {k:Nat}{A:Around} (r:Room k A):A.depth<recursionLimit:=by have:=r.dp;omega
theorem Room.units {k:Nat}{A:Around} (r:Room k A):A.units + 64<cLine:=by have:=r.un;omega
def tNil:TA:=fun _ H Q=>Q [] H
def tCons (ta:TE) (tr:TA):TA:=fun σ H Q=>ta σ H fun x H1=>tr σ H1 fun xs H2=>Q (x::xs) H2
section
variable {X:Cx}{e:Expr}{es:List Expr}{te:TE}{t:TA}{pos:Pos}
theorem pa_nil:PA X [] tNil:=fun _ _ _ _ H Q I h=>Calls.spliced_nil ⟨[],H,I,.nil,h⟩
theorem pa_cons (ha:PE X e te) (hr:PA X es t) (hs:starEach (e::es) X.env=(false,eval e X.env)::starEach es X.env:=by rfl):PA X (e::es) (tCons te t):=by
 intro pos pins s σ H Q I h
 rw [hs]
 show wpAny _ _ (spliced ((false,eval e X.env)::backTo pos (starEach es X.env))) _ _ s
 refine Calls.spliced_cons (thn (ha pins s σ H _ I h) fun u s1 ⟨x,H1,I1,r1,q1⟩=>?_)
 exact thn (hr pos pins s1 σ H1 _ I1 q1) fun us s2 ⟨xs,H2,I2,r2,q2⟩=>⟨x::xs,H2,I2,.cons r1 r2,q2⟩
def tTup (t:TA):TE:=fun σ H Q=>t σ H fun xs H1=>xs.length≤sizeLine∧∀ p,H1 p=none->Q (.ref p) (upd H1 p (.tup xs))
def tLst (t:TA):TE:=fun σ H Q=>t σ H fun xs H1=>xs.length≤sizeLine∧∀ p,H1 p=none->Q (.ref p) (upd H1 p (.lst xs))
theorem pe_tup {x1} (h:PA X es t):PE X (.Tuple es x1 pos) (tTup t):=by
 intro pins s σ H Q I hq
 refine wpAny_Tuple_spliced (thn (h pos pins s σ H _ I hq) fun us s1 ⟨xs,H1,I1,r,z,q⟩=>⟨by rw [←r.length];exact z,?_⟩)
 have hf:H1 s1.heap.objs.size=none:=I1.hok.fresh (Nat.le_refl _)
 refine ⟨.ref s1.heap.objs.size,upd H1 s1.heap.objs.size (.tup xs),I1.laid (t':=s1.toks) (fun b u e=>Heap.get?_push_of_some _ e) (Nat.le_refl _) ?_,rfl,q _ hf⟩
 exact ⟨z,us,r,⟨_,Heap.get?_push_size _ rfl,rfl,_,rfl⟩⟩
theorem pe_lst (h:PA X es t):PE X (.List es pos) (tLst t):=by
 intro pins s σ H Q I hq
 refine wpAny_List_spliced (thn (h pos pins s σ H _ I hq) fun us s1 ⟨xs,H1,I1,r,z,q⟩=>⟨by rw [←r.length];exact z,?_⟩)
 have hf:H1 s1.heap.objs.size=none:=I1.hok.fresh (Nat.le_refl _)
 refine ⟨.ref s1.heap.objs.size,upd H1 s1.heap.objs.size (.lst xs),I1.laid (t':=s1.toks) (fun b u e=>Heap.get?_push_of_some _ e) (Nat.le_refl _) ?_,rfl,q _ hf⟩
 exact ⟨z,us,0,r,Heap.get?_push_size _ rfl⟩
end
abbrev Sp:=List V->Hp->VK->XK->Prop
abbrev CXT:=List Env->Hp->Shared->XK->Value->Shared->Prop
structure Env0 (P:Program) (w:World) (K:PySem.W.Frag) (mg:Str->Option Value) (base:Heap) (A:Around) (outer:List Env) (s:Shared) (H:Hp):Prop where
 frames:A.frames=some outer
 mod:Mod K mg base
 bs:∀ b o,base.get? b=some o->s.heap.get? b=some o∧H b=none
 bsz:base.objs.size≤s.heap.objs.size
 funs:s.heap.FunFrames base outer
 frf:∀ b∈frs outer,H b=none
 hok:HOk P w H s.heap
 bare:AllBare s.gens
def CE (outer:List Env) (P:Program) (w:World) (H:Hp) (s:Shared) (Q:VK) (u:Value) (s':Shared):Prop:=
 ∃ v H',s'.os=s.os∧AllBare s'.gens∧Un (frs outer) [] H H' s.heap s'.heap∧HOk P w H' s'.heap∧RelV v u∧Q v H'
def CR (CX:CXT) (outer:List Env) (P:Program) (w:World) (H:Hp) (s:Shared) (Q:VK) (E:XK) (r:Result) (s':Shared):Prop:=
 match r with
 | .ok (.ret u)=>CE outer P w H s Q u s'
 | .ok _=>False
 | .error e=>CX outer H s E e s'
structure FnOk (P:Program) (w:World) (K:PySem.W.Frag) (mg:Str->Option Value) (base:Heap) (CX:CXT) (k:Nat) (f:Addr) (fd:FuncData) (ps:List Str) (sp:Sp):Prop where
 len:∀ vs H Q E,sp vs H Q E->vs.length=ps.length
 run:∀ (A:Around) (outer:List Env) (s:Shared) (H:Hp) (args:Args) (us:List Value) (vs:List V) (Q:VK) (E:XK),Room k A->Env0 P w K mg base A outer s H->BindsTo s fd args (ps.zip us)->Vals vs us->sp vs H Q E->
  codeAny (model P w) A (.call (.ref f) args) (CR CX outer P w H s Q E) s
theorem FnOk.mono {P:Program}{w:World}{K:PySem.W.Frag}{mg:Str->Option Value}{base:Heap}{CX:CXT}{j k:Nat}{f:Addr}{fd:FuncData}{ps:List Str}{sp:Sp} (F:FnOk P w K mg base CX j f fd ps sp) (h:j≤k) :
  FnOk P w K mg base CX k f fd ps sp:=⟨F.len,fun A outer s H args us vs Q E hr=>F.run A outer s H args us vs Q E (hr.mono h)⟩
theorem FnOk.imp {P:Program}{w:World}{K:PySem.W.Frag}{mg:Str->Option Value}{base:Heap}{CX:CXT}{k:Nat}{f:Addr}{fd:FuncData}{ps:List Str}{sp sp':Sp} (F:FnOk P w K mg base CX k f fd ps sp)
  (h:∀ vs H Q E,sp' vs H Q E->sp vs H Q E):FnOk P w K mg base CX k f fd ps sp':=
 ⟨fun vs H Q E q=>F.len vs H Q E (h _ _ _ _ q),fun A outer s H args us vs Q E hr he hb hv hs=>F.run A outer s H args us vs Q E hr he hb hv (h _ _ _ _ hs)⟩
theorem Env0.make {P:Program}{w:World}{K:PySem.W.Frag}{mg:Str->Option Value}{base:Heap}{A:Around}{outer:List Env}{s:Shared}{H:Hp} (e:Env0 P w K mg base A outer s H) (C:Addr) (us:List Value) (kw:List (Str×Value)) :
  Env0 P w K mg base (A.under (.builtin "type.__call__" ⟨.ref C::us,kw⟩)) outer s H:=⟨by first | exact e.frames | (simpa [Around.under,Code.envs,Code.isFrame,pushEnvs] using e.frames),e.mod,e.bs,e.bsz,e.funs,e.frf,e.hok,e.bare⟩
section
variable {X:Cx}{pins:List (Addr×Obj)}{σ:St}{H:Hp}{s s':Shared}
theorem Inv.env0 (I:Inv X pins σ H s):Env0 X.prog X.w X.K X.mg X.base X.A X.stack s H:=
 ⟨I.ok.frames,I.ok.mod,I.bs,Nat.le_trans I.ok.bsz I.sz,I.stack,I.stkFree,I.hok,I.bare⟩
theorem Inv.after {Q:VK}{u:Value} (I:Inv X pins σ H s) (h:CE X.stack X.prog X.w H s Q u s'):EP X pins σ Q u s':=by
 obtain ⟨v,H',os,bare,un,hok,r,q⟩:=h
 obtain ⟨hh,g,d,t,os'⟩:=s'
 obtain rfl:os'=s.os:=os
 exact ⟨v,H',I.call (h':=hh) (g':=g) (d':=d) (t':=t) (ch:=[]) un hok bare (fun b z=>absurd z (by simp)),r,q⟩
end
def tCall (sp:Sp) (dvs:List V) (E:XK) (t:TA):TE:=fun σ H Q=>t σ H fun vs H1=>sp (vs++dvs) H1 Q E
def tMake (C:Addr) (sp:Sp) (dvs:List V) (E:XK) (t:TA):TE:=fun σ H Q=>t σ H fun vs H1=>∀ x dx,H1 x=none->H1 dx=none->dx≠x->
 sp (.ref x::(vs++dvs)) (upd (upd H1 dx (.own x)) x (.ins C dx [])) (fun v H2=>v=.non∧Q (.ref x) H2) E
def Binds (K:PySem.W.Frag) (fd:FuncData) (ps:List Str) (ds:List Value):Prop:=
 ∀ (s:Shared) (us:List Value),K.In s.heap->(us++ds).length=ps.length->BindsTo s fd ⟨us,[]⟩ (ps.zip (us++ds))
theorem Binds.all {K:PySem.W.Frag}{fd:FuncData}{ps:List Str} (h:∀ us:List Value,us.length=ps.length->bindArgs fd ⟨us,[]⟩=pure (ps.zip us)):Binds K fd ps []:=fun s us _ hl=>by
 rw [List.append_nil] at hl ⊢
 exact .of_eq (h us hl)
def Passes (CX:CXT) (X:Cx) (E:XK):Prop:=∀ (pins:List (Addr×Obj)) (σ:St) (H:Hp) (s:Shared) (e:Value) (s':Shared),Inv X pins σ H s->CX X.stack H s E e s'->X.xe e s'
section
variable {X:Cx}{CX:CXT}{k:Nat}{f C:Addr}{fd:FuncData}{ps:List Str}{sp:Sp}{dvs:List V}{ds:List Value}{E:XK}{x m:Str}{p pos apos:Pos}{e o:Expr}{es:List Expr}{ta:TE}{t:TA}
theorem run_fn {pins:List (Addr×Obj)}{σ:St}{H:Hp}{s:Shared}{Q:VK}{us:List Value}{vs:List V} (F:FnOk X.prog X.w X.K X.mg X.base CX k f fd ps sp) (hr:Room k X.A) (hb:Binds X.K fd ps ds) (hd:Vals dvs ds) (hx:Passes CX X E)
  (I:Inv X pins σ H s) (r:Vals vs us) (h:sp (vs++dvs) H Q E):wpAny (model X.prog X.w) X.A (call (.ref f) us) (EP X pins σ Q) X.xe s:=by
 have r2:Vals (vs++dvs) (us++ds):=r.append hd
 have hl:(us++ds).length=ps.length:=by rw [←r2.length];exact F.len _ _ _ _ h
 refine wpAny_call (codeAny_mono (F.run X.A X.stack s H ⟨us,[]⟩ (us++ds) (vs++dvs) Q E hr I.env0 (hb s us I.kIn hl) r2 h) fun r s' hq=>?_)
 cases r with
 | error e=>exact hx pins σ H s e s' I hq
 | ok fl=>
   cases fl with
   | ret u=>exact I.after hq
   | next=>exact False.elim hq
   | brk=>exact False.elim hq
   | cont=>exact False.elim hq
theorem pe_call (F:FnOk X.prog X.w X.K X.mg X.base CX k f fd ps sp) (hr:Room k X.A) (hg:Gl X x) (hm:X.mg x=some (.ref f)) (hk:PySem.W.keepIn X.K (.ref f)=true) (hb:Binds X.K fd ps ds) (hd:Vals dvs ds) (hx:Passes CX X E)
  (ha:PA X (e::es) t) (hdb:(x == ("__debug__":Str))=false:=by decide) (he:starEach (e::es) X.env=(false,eval e X.env)::starEach es X.env:=by rfl) (hpl:(backTo pos (starEach es X.env)).any (·.1)=false:=by rfl) :
  PE X (.Call (.Name x p) (e::es) [] pos) (tCall sp dvs E t):=by
 intro pins s σ H Q I h
 refine wpAny_Call_Name_kw (ld_glob I hg hm ?_ hdb)
 refine PySem.W.callWith_K (h₀:=X.base) I.ok.mod.kin hk (thn (ha pos pins s σ H _ I h) fun us s1 ⟨vs,H1,I1,r,q⟩=>⟨I1.kIn,?_⟩) he hpl
 exact run_fn F hr hb hd hx I1 r q
structure Mk (K:PySem.W.Frag) (C f:Addr):Prop where
 makes:PySem.W.makesIn K C=true
 init:PySem.W.findIn K (.ref C) "__init__"=some (some (.ref f))
 fn:PySem.W.isFn K (.ref f)=true
 kp:PySem.W.keepIn K (.ref C)=true
theorem run_make {pins:List (Addr×Obj)}{σ:St}{H:Hp}{s:Shared}{Q:VK}{us:List Value}{vs:List V} (M:Mk X.K C f) (F:FnOk X.prog X.w X.K X.mg X.base CX k f fd ps sp) (hr:Room (k + 1) X.A) (hb:Binds X.K fd ps ds) (hd:Vals dvs ds)
  (hx:Passes CX X E) (I:Inv X pins σ H s) (r:Vals vs us)
  (h:∀ x dx,H x=none->H dx=none->dx≠x->sp (.ref x::(vs++dvs)) (upd (upd H dx (.own x)) x (.ins C dx [])) (fun v H2=>v=.non∧Q (.ref x) H2) E) :
  wpAny (model X.prog X.w) X.A (call (.ref C) us) (EP X pins σ Q) X.xe s:=by
 have hq:=h (s.heap.objs.size + 1) s.heap.objs.size (I.hok.fresh (Nat.le_succ _)) (I.hok.fresh (Nat.le_refl _)) (Nat.ne_of_lt (Nat.lt_succ_self _))
 have I2:=Inv.made (C:=C) I
 have r2:Vals (V.ref (s.heap.objs.size + 1)::(vs++dvs)) (Value.ref (s.heap.objs.size + 1)::(us++ds)):=.cons rfl (r.append hd)
 have hl:(Value.ref (s.heap.objs.size + 1)::us++ds).length=ps.length:=by
  have e:=r2.length
  rw [F.len _ _ _ _ hq] at e
  exact e.symm
 refine wpAny_call (make_map (f:=f) I.kIn M.makes M.init (beq_iff_eq.mp M.fn) (codeAny_mono (F.run _ X.stack _ _ ⟨Value.ref (s.heap.objs.size + 1)::us,[]⟩ (Value.ref (s.heap.objs.size + 1)::(us++ds)) _ _ E (hr.make C us [])
  (I2.env0.make C us []) (hb _ (Value.ref (s.heap.objs.size + 1)::us) I2.kIn hl) r2 hq) fun r s' hq'=>?_))
 cases r with
 | error e=>exact hx pins σ _ _ e s' I2 hq'
 | ok fl=>
   cases fl with
   | ret u=>
     obtain ⟨v,H',I3,rv,ev,q3⟩:=I2.after hq'
     subst ev
     exact ⟨rv,⟨V.ref (s.heap.objs.size + 1),H',I3,rfl,q3⟩⟩
   | next=>exact False.elim hq'
   | brk=>exact False.elim hq'
   | cont=>exact False.elim hq'
theorem pe_make (M:Mk X.K C f) (F:FnOk X.prog X.w X.K X.mg X.base CX k f fd ps sp) (hr:Room (k + 1) X.A) (hg:Gl X x) (hm:X.mg x=some (.ref C)) (hb:Binds X.K fd ps ds) (hd:Vals dvs ds) (hx:Passes CX X E)
  (ha:PA X (e::es) t) (hdb:(x == ("__debug__":Str))=false:=by decide) (he:starEach (e::es) X.env=(false,eval e X.env)::starEach es X.env:=by rfl) (hpl:(backTo pos (starEach es X.env)).any (·.1)=false:=by rfl) :
  PE X (.Call (.Name x p) (e::es) [] pos) (tMake C sp dvs E t):=by
 intro pins s σ H Q I h
 refine wpAny_Call_Name_kw (ld_glob I hg hm ?_ hdb)
 refine PySem.W.callWith_K (h₀:=X.base) I.ok.mod.kin M.kp (thn (ha pos pins s σ H _ I h) fun us s1 ⟨vs,H1,I1,r,q⟩=>⟨I1.kIn,?_⟩) he hpl
 exact run_make M F hr hb hd hx I1 r q
end
structure FnScope (N P:List Str) (sc:Scope):Prop where
 kind:sc.kind=.function
 co:sc.isCoroutine=false
 gen:sc.isGenerator=false
 nd:N.Nodup
 pre:N.take P.length=P
 par:∀ x∈P,sc.names.lookup x=some .local∨sc.names.lookup x=some .cell
 nofree:∀ y∈sc.names,y.2≠.free
theorem bindL_out {kindOf:Str->Option NameKind}{x:Str}:∀ {binds:List (Str×Value)}{m:Str->Option Value},(∀ v,(x,v)∉binds)->bindL kindOf binds m x=m x
 | [],_,_=>rfl
 | (n,v)::r,m,h=>by
   unfold bindL
   rw [bindL_out fun w hw=>h w (List.mem_cons_of_mem _ hw)]
   split
   ·have:x≠n:=by rintro rfl;exact h v List.mem_cons_self
    simp [this]
   ·rfl
theorem bindC_out {kindOf:Str->Option NameKind}{x:Str}:∀ {binds:List (Str×Value)}{m:Str->Option Value},(∀ v,(x,v)∉binds)->bindC kindOf binds m x=m x
 | [],_,_=>rfl
 | (n,v)::r,m,h=>by
   unfold bindC
   rw [bindC_out fun w hw=>h w (List.mem_cons_of_mem _ hw)]
   split
   ·rfl
   ·have:x≠n:=by rintro rfl;exact h v List.mem_cons_self
    simp [this]
theorem bindL_get {kindOf:Str->Option NameKind}{x:Str}{v:Value}:∀ {P:List Str}{vs:List Value}{i:Nat}{m:Str->Option Value},P.Nodup->P[i]?=some x->vs[i]?=some v->kindOf x=some .local->
  bindL kindOf (P.zip vs) m x=some v
 | [],_,_,_,_,h,_,_=>by simp at h
 | _::_,[],_,_,_,_,h,_=>by simp at h
 | p::P,w::vs,0,m,nd,h1,h2,hk=>by
   simp at h1 h2;subst h1;subst h2
   show bindL kindOf ((p,w)::P.zip vs) m p=_
   unfold bindL
   rw [bindL_out fun v hv=>(List.nodup_cons.mp nd).1 (List.of_mem_zip hv).1,if_pos hk]
   simp
 | p::P,w::vs,i + 1,m,nd,h1,h2,hk=>by
   show bindL kindOf ((p,w)::P.zip vs) m x=_
   unfold bindL
   exact bindL_get (i:=i) (List.nodup_cons.mp nd).2 (by simpa using h1) (by simpa using h2) hk
theorem bindC_get {kindOf:Str->Option NameKind}{x:Str}{v:Value}:∀ {P:List Str}{vs:List Value}{i:Nat}{m:Str->Option Value},P.Nodup->P[i]?=some x->vs[i]?=some v->kindOf x≠some .local->
  bindC kindOf (P.zip vs) m x=some v
 | [],_,_,_,_,h,_,_=>by simp at h
 | _::_,[],_,_,_,_,h,_=>by simp at h
 | p::P,w::vs,0,m,nd,h1,h2,hk=>by
   simp at h1 h2;subst h1;subst h2
   show bindC kindOf ((p,w)::P.zip vs) m p=_
   unfold bindC
   rw [bindC_out fun v hv=>(List.nodup_cons.mp nd).1 (List.of_mem_zip hv).1,if_neg hk]
   simp
 | p::P,w::vs,i + 1,m,nd,h1,h2,hk=>by
   show bindC kindOf ((p,w)::P.zip vs) m x=_
   unfold bindC
   exact bindC_get (i:=i) (List.nodup_cons.mp nd).2 (by simpa using h1) (by simpa using h2) hk
def start (N:List Str) (vs:List V):St:=vs.map some++List.replicate (N.length - vs.length) none
def cxOf (CX:CXT) (P:Program) (w:World) (K:PySem.W.Frag) (mg:Str->Option Value) (base:Heap) (N:List Str) (qual:Str) (scope:Scope) (f:Addr) (cd:Value) (A:Around) (outer:List Env) (s:Shared) (H:Hp) (E:XK):Cx where
 prog:=P
 w:=w
 K:=K
 mg:=mg
 base:=base
 A:=A.deeper (envOfC qual scope s.heap.objs.size f cd)
 N:=N
 s₀:=s
 H₀:=H
 env:=envOfC qual scope s.heap.objs.size f cd
 outer:=outer
 stack:=envOfC qual scope s.heap.objs.size f cd::outer
 ex:=[]
 calm:=true
 fn:=fun _=>true
 pn:=[]
 xe:=fun e s'=>wpAny (model P w) (A.deeper (envOfC qual scope s.heap.objs.size f cd)) (leaving (envOfC qual scope s.heap.objs.size f cd) e) (fun _ s''=>CX outer H s E e s'') (fun e' s''=>CX outer H s E e' s'') s'
theorem cell_has {sc:Scope}{n:Nat}{x:Str} (h:sc.names.lookup x=some .cell):∃ c,(cellsFrom n sc.names []).lookup x=some c:=by
 have q:=PySem.W.cellsFrom_some sc.names n [] (.inl h)
 exact Option.isSome_iff_exists.mp q
theorem inv_start {CX:CXT}{P:Program}{w:World}{K:PySem.W.Frag}{mg:Str->Option Value}{base:Heap}{N ps:List Str}{qual:Str}{scope:Scope}{f:Addr}{cd:Value}{A:Around}{outer:List Env}{s s1:Shared}{H:Hp}{E:XK}{us:List Value}{vs:List V}
  (S:FnScope N ps scope) (hd:A.handled=none) (e0:Env0 P w K mg base A outer s H) (hl:vs.length=ps.length) (r:Vals vs us)
  (x:InCallC s s.heap.objs.size (bindL (envOfC qual scope s.heap.objs.size f cd).kindOf (ps.zip us) fun _=>none) (cellsFrom (s.heap.objs.size + 1) scope.names []) (bindC (envOfC qual scope s.heap.objs.size f cd).kindOf (ps.zip us) fun _=>none) s1) :
  Inv (cxOf CX P w K mg base N qual scope f cd A outer s H E) [] (start N vs) H s1:=by
 have hpl:ps.length≤N.length:=by have:=congrArg List.length S.pre;rw [List.length_take] at this;omega
 obtain ⟨h1,tk,rfl,hk⟩:=x.done
 have noA:∀ b:Addr,b∉(cxOf CX P w K mg base N qual scope f cd A outer s H E).ex:=fun b z=>absurd (show b∈([]:List Addr) from z) (by simp)
 refine ⟨⟨e0.mod,S.kind,rfl,rfl,Nat.le_refl _,fun y z c h1 h2=>?_,fun y hy=>?_,fun y c _ h=>?_,fun _=>hd,Around.frames_deeper e0.frames,.inr ⟨rfl,rfl⟩,fun b z=>absurd z (noA b),e0.bs,e0.bsz,fun b _ _=>noA b,fun b z=>absurd z (noA b),e0.funs,e0.frf⟩,
  rfl,e0.bare,Un.kept hk,⟨_,x.toInCall.ns,fun i y v h1 h2 h3=>?_⟩,fun y c h=>⟨_,x.cell y c h⟩,e0.hok.fresh (Nat.le_refl _),fun y c h=>?_,fun p hp=>absurd (show p∈([]:List (Addr×Obj)) from hp) (by simp),e0.hok.kept hk,?_⟩
 ·exact name_of_addr x.apart (PySem.mem_of_lookup h1) (PySem.mem_of_lookup h2)
 ·have hy:scope.names.lookup y=some .cell∨scope.names.lookup y=some .free:=hy
  rcases hy with hy | hy
  ·exact cell_has hy
  ·exact absurd rfl (S.nofree _ (PySem.mem_of_lookup hy))
 ·exact Nat.le_of_lt (x.above y c (PySem.mem_of_lookup h))
 ·have hi:i<vs.length:=by
   unfold start at h2
   by_cases hi:i<vs.length
   ·exact hi
   ·rw [List.getElem?_append_right (by simpa using hi)] at h2
    rw [List.getElem?_replicate] at h2
    split at h2<;>cases h2
  have ha:vs[i]?=some v:=by
   unfold start at h2
   rw [List.getElem?_append_left (by simpa using hi),List.getElem?_map] at h2
   cases e:vs[i]? with
   | none=>rw [e] at h2;cases h2
   | some a=>rw [e] at h2;cases h2;rfl
  obtain ⟨u,hu,rv⟩:=r.get ha
  have hp:ps[i]?=some y:=by
   rw [←S.pre,List.getElem?_take_of_lt (by omega)];exact h1
  have ndP:ps.Nodup:=by rw [←S.pre];exact S.nd.sublist (List.take_sublist _ _)
  refine ⟨u,rv,?_⟩
  rcases S.par y (List.mem_of_getElem? hp) with k | k
  ·exact .inl ⟨k,bindL_get ndP hp hu k⟩
  ·obtain ⟨c,e⟩:=cell_has (n:=s.heap.objs.size + 1) k
   refine .inr ⟨.inl k,c,e,?_⟩
   have q:=x.cell y c e
   rw [bindC_get ndP hp hu (by show scope.names.lookup y≠_;rw [k];decide)] at q
   exact q
 ·exact e0.hok.fresh (Nat.le_of_lt (x.above y c (PySem.mem_of_lookup h)))
 ·unfold start
  show _=N.length
  rw [List.length_append,List.length_map,List.length_replicate]
  omega
theorem fn_of {CX:CXT}{P:Program}{w:World}{K:PySem.W.Frag}{mg:Str->Option Value}{base:Heap}{k:Nat}{f:Addr}{name qual:Str}{params:Arguments}{body:List Stmt}{scope:Scope}{dV kV doc pm cdv ct oc:Value}{an od:Option Addr}
  {osl:Array (Option Value)}{N ps:List Str}{sp:Sp} (lk:K.lookup f=some ⟨oc,od,.func (PySem.W.fnOf name qual params body scope dV kV doc pm an cdv ct),osl⟩) (hcd:PySem.W.codeIn K cdv qual=true) (S:FnScope N ps scope)
  (len:∀ vs H Q E,sp vs H Q E->vs.length=ps.length)
  (hbody:∀ (A:Around) (outer:List Env) (s:Shared) (H:Hp) (vs:List V) (Q:VK) (E:XK),Room k (A.deeper (envOfC qual scope s.heap.objs.size f cdv))->sp vs H Q E->
    ∃ t,PSs (cxOf CX P w K mg base N qual scope f cdv A outer s H E) body t∧t { nx:=fun _ H'=>Q .non H',rt:=Q } (start N vs) H) :
  FnOk P w K mg base CX (k + 1) f (PySem.W.fnOf name qual params body scope dV kV doc pm an cdv ct) ps sp:=by
 refine ⟨len,fun A outer s H args us vs Q E hr e0 hb r hsp=>?_⟩
 have hl:=len _ _ _ _ hsp
 have KX:K.In s.heap:=e0.mod.kin.keeps fun b o e=>(e0.bs b o e).1
 have lim:s.heap.NoLimit:=e0.mod.nolimit.keeps fun b o e=>(e0.bs b o e).1
 have hkind:∀ y∈ps.zip us,scope.names.lookup y.1=some .local∨(scope.names.lookup y.1=some .cell∧((cellsFrom (s.heap.objs.size + 1) scope.names []).lookup y.1).isSome=true):=fun ⟨n,v⟩ hy=>by
  rcases S.par n (List.of_mem_zip hy).1 with q | q
  ·exact .inl q
  ·exact .inr ⟨q,PySem.W.cellsFrom_some _ _ _ (.inl q)⟩
 refine codeAny_call_function hr.depth (KX _ _ lk) rfl S.co S.gen rfl (PySem.W.codeRec_of KX hcd) (hb _ _ _ _ ?_)
 refine wpAny_newFunctionEnv_cells S.kind hkind fun env he s1 x=>?_
 subst he
 refine ⟨lim.keeps x.toInCall.keep,codeAny_func ?_⟩
 obtain ⟨t,ht,hq⟩:=hbody A outer s H vs Q E (hr.deeper _) hsp
 have I:Inv (cxOf CX P w K mg base N qual scope f cdv A outer s H E) [] (start N vs) H s1:=inv_start S hr.hd e0 hl r x
 refine wpAny_mono (ht [] s1 (start N vs) H _ I hq) (fun fl s' hs=>?_) fun e s' hs=>hs
 have fin:∀ {σ':St}{H':Hp}{v:V}{u:Value},Inv (cxOf CX P w K mg base N qual scope f cdv A outer s H E) [] σ' H' s'->RelV v u->Q v H'->CE outer P w H s Q u s':=
  fun {σ' H' v u} J rv q=>⟨v,H',J.os,J.bare,J.base,J.hok,rv,q⟩
 cases fl with
 | ret u=>
   obtain ⟨v,σ',H',J,rv,q⟩:=hs
   exact fin J rv q
 | next=>
   obtain ⟨σ',H',J,q⟩:=hs
   exact fin (v:=V.non) (u:=Value.none) J rfl q
 | brk=>
   obtain ⟨_,_,_,q⟩:=hs
   exact False.elim q
 | cont=>
   obtain ⟨_,_,_,q⟩:=hs
   exact False.elim q
open PySem PySem.Spec PyProof.Rows
section
variable {X:Cx}{x:Str}{p pos:Pos}{e:Expr}{es:List Expr}{t:TA}{id T:String}{r:List V->Hp->VK->Prop}
def tCB (r:List V->Hp->VK->Prop) (t:TA):TE:=fun σ H Q=>t σ H fun vs H1=>r vs H1 Q
theorem pe_callB (hc:CallR X (.builtin id) r) (hg:Gl X x) (hm:X.mg x=none) (hv:bootBuiltins x=some (.builtin id)) (ha:PA X (e::es) t) (hn:x≠"__name__":=by decide) (hdb:(x == ("__debug__":Str))=false:=by decide)
  (he:starEach (e::es) X.env=(false,eval e X.env)::starEach es X.env:=by rfl) (hpl:(backTo pos (starEach es X.env)).any (·.1)=false:=by rfl):PE X (.Call (.Name x p) (e::es) [] pos) (tCB r t):=by
 intro pins s σ H Q I h
 refine wpAny_Call_Name_kw (ld_blt I hg hm hv ?_ hn hdb)
 exact PyProof.Rows.callWith_builtin1 (thn (ha pos pins s σ H _ I h) fun us s1 ⟨vs,H1,I1,r1,q1⟩=>hc pins s1 σ H1 vs us Q I1 r1 q1) he hpl
theorem pe_callTy (hc:CallR X (.type T) r) (hg:Gl X x) (hm:X.mg x=none) (hv:bootBuiltins x=some (.type T)) (ha:PA X (e::es) t) (hn:x≠"__name__":=by decide) (hdb:(x == ("__debug__":Str))=false:=by decide)
  (he:starEach (e::es) X.env=(false,eval e X.env)::starEach es X.env:=by rfl) (hpl:(backTo pos (starEach es X.env)).any (·.1)=false:=by rfl):PE X (.Call (.Name x p) (e::es) [] pos) (tCB r t):=by
 intro pins s σ H Q I h
 refine wpAny_Call_Name_kw (ld_blt I hg hm hv ?_ hn hdb)
 exact PyProof.Rows.callWith_type1 (thn (ha pos pins s σ H _ I h) fun us s1 ⟨vs,H1,I1,r1,q1⟩=>hc pins s1 σ H1 vs us Q I1 r1 q1) he hpl
end
end L2
namespace HT
open PySem PyProof.Rows
section
open PySem.SeqAt
open PySem.AutoSeq1 (wpAny_loadPart')
open PySem.MeetsSeq PySem.MeetsSeq2 PySem.MeetsSeq3
end
section
variable {prog:Program}{w:World}{A:Around}{E:Value->Shared->Prop}{s:Shared}
theorem cat_tup {t b:Addr}{vs ws:List Value}{Q:Value->Shared->Prop} (ht:IsTup s.heap t vs.toArray) (hb:IsTup s.heap b ws.toArray) (hv:vs≠[])
  (h1:ws=[]->Q (.ref t) s) (h2:ws≠[]->Q (.ref s.heap.objs.size) { s with heap:=s.heap.push { cls:=.type "tuple",data:=.seq (vs++ws).toArray } })
  (hsz:vs.length + ws.length≤sizeLine):wpAny (model prog w) A (binaryOp .Add (.ref t) (.ref b)) Q E s:=by
 obtain ⟨⟨cls,dd,data,sl⟩,ho,hc,n,hd⟩:=id ht
 obtain ⟨⟨cls2,dd2,data2,sl2⟩,ho2,hc2,n2,hd2⟩:=id hb
 simp only at hc hd hc2 hd2
 subst hc hd hc2 hd2
 have e:vs.toArray++ws.toArray=(vs++ws).toArray:=by simp
 by_cases hw:ws=[]
 ·exact concat_meets ⟨_,ho,rfl⟩ ⟨_,ho2,rfl⟩ noFill_tuple_add seq_tuple_add PySem.F.slot_tuple_add PySem.F.entry_tuple_add (PySem.F.args_tuple_add_2 _ _)
   (tuple_addW1 t b vs.toArray ws.toArray n n2 dd dd2 sl sl2 (by simpa using hv) (by simp [hw])) ⟨ho,ho2,h1 hw⟩
 ·refine concat_meets ⟨_,ho,rfl⟩ ⟨_,ho2,rfl⟩ noFill_tuple_add seq_tuple_add PySem.F.slot_tuple_add PySem.F.entry_tuple_add (PySem.F.args_tuple_add_2 _ _)
   (tuple_addW2 t b vs.toArray ws.toArray n n2 dd dd2 sl sl2 (by simpa using hv) (by simpa using hw) (by rw [List.size_toArray,List.size_toArray];exact hsz)) ⟨ho,ho2,?_⟩
  rw [e]
  exact h2 hw
def sIx (n d:Nat):Option Int->Nat
 | none=>d
 | some v=>if v<0 then (v + (n:Int)).toNat else min v.toNat n
end
end HT
namespace L2
open PySem PySem.Spec PyProof.Rows
abbrev TO:=St->Hp->(Option Int->Hp->Prop)->Prop
def PO (X:Cx) (e:Option Expr) (t:TO):Prop:=
 ∀ (pins:List (Addr×Obj)) (s:Shared) (σ:St) (H:Hp) (Q:Option Int->Hp->Prop),Inv X pins σ H s->t σ H Q->
   wpAny (model X.prog X.w) X.A (evalPart e X.env) (fun u s'=>∃ o H',Inv X pins σ H' s'∧IsPart u o∧Q o H') X.xe s
def tPart (t:TE):TO:=fun σ H Q=>t σ H fun x H1=>∃ i,x=.int i∧Q (some i) H1
theorem intsAre_of {ns:List Int}:∀ {us:List Value},Vals (ns.map V.int) us->IntsAre us ns:=by
 induction ns with
 | nil=>intro us r;rw [List.map_nil] at r;cases r;exact .nil
 | cons n ns ih=>
   intro us r
   rw [List.map_cons] at r
   cases r with
   | cons r1 r2=>
     obtain ⟨t,e⟩:=r1
     subst e
     exact .cons n t (ih r2)
section
variable {X:Cx}{e:Expr}{te:TE}{lo hi:Option Expr}{tl th:TO}{pos p2:Pos}
theorem po_some (h:PE X e te):PO X (some e) (tPart te):=by
 intro pins s σ H Q I hw
 rw [evalPart_some]
 refine thn (h pins s σ H _ I hw) fun u s1 ⟨x,H1,I1,r1,q1⟩=>?_
 obtain ⟨i,rfl,q⟩:=q1
 obtain ⟨t,rfl⟩:=r1
 exact ⟨some i,H1,I1,.int i t,q⟩
def SlR (X:Cx) (r:V->Option Int->Option Int->Hp->VK->Prop):Prop:=
 ∀ (pins:List (Addr×Obj)) (s:Shared) (σ:St) (H:Hp) (x:V) (v vl vu:Value) (lo hi:Option Int) (sl:Addr) (Q:VK),Inv X pins σ H s->RelV x v->s.heap.IsSliceOf sl vl vu .none->IsPart vl lo->IsPart vu hi->r x lo hi H Q->
   ∃ T id,typeLookup (.type T) "__getitem__"=pure (some (.builtin id))∧s.TypeIs v T∧wpAny (model X.prog X.w) X.A (getItem v (.ref sl)) (EP X pins σ Q) X.xe s
def tSl (r:V->Option Int->Option Int->Hp->VK->Prop) (te:TE) (tl th:TO):TE:=fun σ H Q=>te σ H fun x H1=>tl σ H1 fun l H2=>th σ H2 fun u H3=>r x l u H3 Q
theorem pe_slice {r:V->Option Int->Option Int->Hp->VK->Prop} (hr:SlR X r) (he:PE X e te) (hl:PO X lo tl) (hu:PO X hi th):PE X (.Subscript e (.Slice lo hi none p2) pos) (tSl r te tl th):=by
 intro pins s σ H Q I h
 refine Subscript_ (thn (he pins s σ H _ I h) fun v s1 ⟨x,H1,I1,r1,q1⟩=>?_)
 refine wpAny_Slice (thn (hl pins s1 σ H1 _ I1 q1) fun vl s2 ⟨l,H2,I2,pl,q2⟩=>thn (hu pins s2 σ H2 _ I2 q2) fun vu s3 ⟨u,H3,I3,pu,q3⟩=>?_)
 rw [evalPart_none]
 refine wpAny_pure ?_
 have I4:Inv X pins σ H3 { s3 with heap:=s3.heap.push { cls:=.type "slice",data:=.fields #[vl,vu,.none] } }:=I3.kept (t':=s3.toks) fun b ob q=>Heap.get?_push_of_some _ q
 obtain ⟨T,id,hT,ht,hg⟩:=hr pins { s3 with heap:=s3.heap.push { cls:=.type "slice",data:=.fields #[vl,vu,.none] } } σ H3 x v vl vu l u s3.heap.objs.size Q I4 r1 (Heap.IsSliceOf.new ..) pl pu q3
 show wpAny (model X.prog X.w) X.A (subscriptTail e (.Slice lo hi none p2) v (.ref s3.heap.objs.size)) (EP X pins σ Q) X.xe { s3 with heap:=s3.heap.push { cls:=.type "slice",data:=.fields #[vl,vu,.none] } }
 exact tail_any (ops:=[.ref s3.heap.objs.size,v]) ht hT hg (by with_unfolding_all rfl)
def cutV (xs:List V) (lo hi:Option Int):List V:=(xs.drop (HT.sIx xs.length 0 lo)).take (HT.sIx xs.length xs.length hi - HT.sIx xs.length 0 lo)
theorem cutV_length (xs:List V) (lo hi:Option Int):(cutV xs lo hi).length≤xs.length:=by
 unfold cutV
 rw [List.length_take,List.length_drop]
 omega
def rCatT (K:PySem.W.Frag):R2:=fun x y H Q=>∃ a b xs ys,x=.ref a∧y=.ref b∧SqT K H a xs∧SqT K H b ys∧xs≠[]∧xs.length + ys.length≤sizeLine ∧
 (ys=[]->Q (.ref a) H)∧(ys≠[]->∀ p,H p=none->Q (.ref p) (upd H p (.tup (xs++ys))))
theorem Vals.nil_iff {xs:List V}{us:List Value} (r:Vals xs us):us=[] ↔ xs=[]:=by
 cases r with
 | nil=>simp
 | cons _ _=>simp
theorem op_catT:OpR X (binaryOp .Add) (rCatT X.K):=by
 intro pins s σ H x y v u Q I rx ry h
 obtain ⟨a,b,xs,ys,rfl,rfl,ha,hb,hx,hz,q1,q2⟩:=h
 cases rx
 cases ry
 obtain ⟨its,r1,p1,_⟩:=I.tuple ha
 obtain ⟨its2,r2,p2,_⟩:=I.tuple hb
 refine HT.cat_tup p1 p2 (fun z=>hx (r1.nil_iff.mp z)) (fun z=>⟨.ref a,H,I,rfl,q1 (r2.nil_iff.mp z)⟩) (fun z=>?_) (by rw [←r1.length,←r2.length];exact hz)
 refine ⟨.ref s.heap.objs.size,_,I.laid (t':=s.toks) (o:=.tup (xs++ys)) (fun b ob q=>Heap.get?_push_of_some _ q) (Nat.le_refl _) ?_,rfl,q2 (fun w=>z (r2.nil_iff.mpr w)) _ (I.hok.fresh (Nat.le_refl _))⟩
 exact ⟨by rw [List.length_append];exact hz,_,r1.append r2,IsTup.new _ _⟩
end
open PySem PySem.Spec PyProof.Rows
def ixN (n:Nat) (i:Int):Option Nat:=if 0≤i then (if i<n then some i.toNat else none) else if -(n:Int)≤i then some (i + n).toNat else none
def atI {α:Type} (xs:List α) (i:Int):Option α:=(ixN xs.length i).bind fun j=>xs[j]?
theorem ixN_seq {n:Nat}{i:Int}{j:Nat} (h:ixN n i=some j):seqIndex? i n=some j∧j<n∧-(n:Int)≤i∧i<n:=by
 unfold ixN at h
 by_cases h0:0≤i
 ·rw [if_pos h0] at h
  by_cases h1:i<n
  ·rw [if_pos h1] at h
   have e:i.toNat=j:=Option.some.inj h
   exact ⟨by rw [seqIndex_of h0 h1,e],by omega,by omega,h1⟩
  ·rw [if_neg h1] at h;cases h
 ·rw [if_neg h0] at h
  by_cases h1:-(n:Int)≤i
  ·rw [if_pos h1] at h
   have e:(i + n).toNat=j:=Option.some.inj h
   exact ⟨by rw [seqIndex_neg (by omega) h1,e],by omega,h1,by omega⟩
  ·rw [if_neg h1] at h;cases h
theorem atI_get {α:Type}{xs:List α}{i:Int}{v:α} (h:atI xs i=some v):∃ j,seqIndex? i xs.length=some j∧xs[j]?=some v∧j<xs.length∧-(xs.length:Int)≤i∧i<xs.length:=by
 unfold atI at h
 cases e:ixN xs.length i with
 | none=>rw [e] at h;cases h
 | some j=>
   rw [e] at h
   obtain ⟨h1,h2,h3,h4⟩:=ixN_seq e
   exact ⟨j,h1,h,h2,h3,h4⟩
def PlainIx (b:Expr):Prop:=∀ o i,subscripted b false o i=operate [o,i] (getItem o i)
def IxR (X:Cx) (r:R2):Prop:=
 ∀ (value slice:Expr) (pins:List (Addr×Obj)) (s:Shared) (σ:St) (H:Hp) (x y:V) (v u:Value) (Q:VK),Inv X pins σ H s->RelV x v->RelV y u->r x y H Q->
   subscripted slice false v u=operate [v,u] (getItem v u)->wpAny (model X.prog X.w) X.A (subscriptTail value slice v u) (EP X pins σ Q) X.xe s
def MtR (X:Cx) (id:String) (r:V->List V->Hp->VK->Prop):Prop:=
 ∀ (pins:List (Addr×Obj)) (s:Shared) (σ:St) (H:Hp) (x:V) (xs:List V) (v:Value) (us:List Value) (Q:VK),Inv X pins σ H s->RelV x v->Vals xs us->r x xs H Q->
   wpAny (model X.prog X.w) X.A (call (.builtin id) (v::us)) (EP X pins σ Q) X.xe s
section
variable {X:Cx}{a b:Expr}{ta tb:TE}{pos:Pos}
theorem pe_ix {r:R2} (hr:IxR X r) (ha:PE X a ta) (hb:PE X b tb) (hs:PlainIx b):PE X (.Subscript a b pos) (tOp r ta tb):=by
 intro pins s σ H Q I h
 exact Subscript_ (binT ha hb I h fun v u s2 x y H2 I2 rx ry q=>hr a b pins s2 σ H2 x y v u Q I2 rx ry q (hs _ _))
def rIxL (K:PySem.W.Frag):R2:=fun x y H Q=>∃ p xs i v,x=.ref p∧y=.int i∧SqL K H p xs∧atI xs i=some v∧Q v H
def rIxT (K:PySem.W.Frag):R2:=fun x y H Q=>∃ p xs i v,x=.ref p∧y=.int i∧SqT K H p xs∧atI xs i=some v∧Q v H
theorem ix_list:IxR X (rIxL X.K):=by
 intro value slice pins s σ H x y v u Q I rx ry h hs
 obtain ⟨p,xs,i,z,rfl,rfl,hq,he,q⟩:=h
 cases rx
 obtain ⟨t,rfl⟩:=ry
 obtain ⟨its,r,pl,hz⟩:=I.list hq
 obtain ⟨j,h1,h2,h3,h4,h5⟩:=atI_get he
 obtain ⟨w,ew,rw'⟩:=r.get h2
 have hl:=r.length
 have hn:=line63
 have fin:EP X pins σ Q w s:=⟨z,H,I,rw',q⟩
 by_cases h0:0≤i
 ·have hj:i.toNat=j:=by
   rw [seqIndex_of h0 h5] at h1
   exact Option.some.inj h1
  exact item_listR pl.isList h0 (by omega) (by rw [hj];simpa using ew) fin hs
 ·have hj:(i + (its.toArray.size:Int)).toNat=j:=by
   rw [seqIndex_neg (by omega) h4] at h1
   rw [List.size_toArray,←hl]
   exact Option.some.inj h1
  exact subscriptTail_builtinR (x:=w) pl.isList.typeIs slot_list_getitem.lookup
   (wpAny_getItem_list_neg (Q:=fun r s'=>r=w∧EP X pins σ Q r s') pl.isList (by omega) (by rw [List.size_toArray]<;>omega) (by omega) (by rw [hj];simpa using ew) ⟨rfl,fin⟩) hs
theorem ix_tup:IxR X (rIxT X.K):=by
 intro value slice pins s σ H x y v u Q I rx ry h hs
 obtain ⟨p,xs,i,z,rfl,rfl,hq,he,q⟩:=h
 cases rx
 obtain ⟨t,rfl⟩:=ry
 obtain ⟨its,r,pl,hz⟩:=I.tuple hq
 obtain ⟨j,h1,h2,h3,h4,h5⟩:=atI_get he
 obtain ⟨w,ew,rw'⟩:=r.get h2
 have hl:=r.length
 have hn:=line63
 have fin:EP X pins σ Q w s:=⟨z,H,I,rw',q⟩
 exact subscriptTail_builtinR (x:=w) pl.typeIs slot_tuple_getitem.lookup
  (getItem_tuple (j:=j) (Q:=fun r s'=>r=w∧EP X pins σ Q r s') pl (by omega) (by omega) (by rw [List.size_toArray,←hl];exact h1) (by simpa using ew) ⟨rfl,fin⟩) hs
theorem mapSeq_set (its:List Value) (n j:Nat) (u:Value):Obj.mapSeq (·.setIfInBounds j u) { cls:=.type "list",data:=.seq its.toArray n }={ cls:=.type "list",data:=.seq (its.set j u).toArray n }:=by
 simp [Obj.mapSeq]
theorem Inv.lst {pins:List (Addr×Obj)}{σ:St}{H:Hp}{s:Shared}{p:Addr}{xs:List V} (I:Inv X pins σ H s) (h:H p=some (.lst xs)) :
  ∃ (its:List Value) (n:Nat),Vals xs its∧s.heap.get? p=some { cls:=.type "list",data:=.seq its.toArray n }∧xs.length≤sizeLine:=by
 obtain ⟨z,its,n,r,e⟩:=I.hok p _ h
 exact ⟨its,n,r,e,z⟩
theorem Inv.lstUpd {pins:List (Addr×Obj)}{σ:St}{H:Hp}{s:Shared}{p:Addr}{xs ys:List V}{its its':List Value}{n n':Nat}{f:Obj->Obj} (I:Inv X pins σ H s) (h:H p=some (.lst xs))
  (ho:s.heap.get? p=some { cls:=.type "list",data:=.seq its.toArray n }) (hf:f { cls:=.type "list",data:=.seq its.toArray n }={ cls:=.type "list",data:=.seq its'.toArray n' }) (r:Vals ys its') (hz:ys.length≤sizeLine) (t:Nat) :
  Inv X pins σ (upd H p (.lst ys)) { s with heap:=s.heap.update p f,toks:=t }:=by
 have e:(s.heap.update p f).get? p=some { cls:=.type "list",data:=.seq its'.toArray n' }:=by
  rw [Heap.get?_update_self f ho (by rw [hf]<;>rfl),hf]
 refine I.write (x:=p) (e:=p) (by rw [h];trivial) (.inl rfl) (fun b u hb q=>(Heap.get?_update_other _ _ (Ne.symm hb)).trans q) ⟨_,e⟩ ?_
 exact ⟨hz,its',n',r,e⟩
def rSetL:V->V->V->Hp->(Hp->Prop)->Prop:=fun o i v H Q=>∃ p xs k j,o=.ref p∧i=.int k∧H p=some (.lst xs)∧ixN xs.length k=some j∧Q (upd H p (.lst (xs.set j v)))
theorem set_list:PSet X rSetL:=by
 intro pins s σ H o i v ov iv u Q I ro ri rv h
 obtain ⟨p,xs,k,j,rfl,rfl,hp,hj,q⟩:=h
 cases ro
 obtain ⟨t,rfl⟩:=ri
 obtain ⟨its,n,r,ho,hz⟩:=I.lst hp
 obtain ⟨h1,h2,h3,h4⟩:=ixN_seq hj
 have hl:=r.length
 have hn:=line63
 have I':Inv X pins σ (upd H p (.lst (xs.set j v))) { s with heap:=s.heap.update p (Obj.mapSeq (·.setIfInBounds j u)) }:=
  I.lstUpd hp ho (mapSeq_set its n j u) (r.set rv j) (by rw [List.length_set];exact hz) s.toks
 by_cases h0:0≤k
 ·have hk:k.toNat=j:=by
   rw [seqIndex_of h0 h4] at h1
   exact Option.some.inj h1
  exact PySem.W.ki_setAt ho h0 (by omega) (by rw [List.size_toArray,←hl];exact h4) (by rw [hk];exact ⟨_,I',q⟩)
 ·have hk:(k + (its.toArray.size:Int)).toNat=j:=by
   rw [seqIndex_neg (by omega) h3] at h1
   rw [List.size_toArray,←hl]
   exact Option.some.inj h1
  exact PySem.W.ki_setBack ho (by omega) (by rw [List.size_toArray,←hl];exact h3) (by omega) (by rw [hk];exact ⟨_,I',q⟩)
theorem slice_bounds (lo hi:Option Int) (n:Nat):(sliceBounds lo hi none n).1=((HT.sIx n 0 lo:Nat):Int)∧(sliceBounds lo hi none n).2.1=((HT.sIx n n hi:Nat):Int)∧(sliceBounds lo hi none n).2.2=1:=by
 refine ⟨?_,?_,rfl⟩
 ·cases lo with
  | none=>simp [sliceBounds,HT.sIx]
  | some i=>
    simp only [sliceBounds,HT.sIx,Option.getD_none,show (1:Int) > 0 by decide,if_true]
    by_cases h:i<0
    ·simp only [h,if_true]<;>omega
    ·simp only [h,if_false]<;>omega
 ·cases hi with
  | none=>simp [sliceBounds,HT.sIx]
  | some i=>
    simp only [sliceBounds,HT.sIx,Option.getD_none,show (1:Int) > 0 by decide,if_true]
    by_cases h:i<0
    ·simp only [h,if_true]<;>omega
    ·simp only [h,if_false]<;>omega
theorem slicePick_cut (its:List Value) (lo hi:Option Int):slicePick its.toArray lo hi none=((its.drop (HT.sIx its.length 0 lo)).take (HT.sIx its.length its.length hi - HT.sIx its.length 0 lo)).toArray:=by
 obtain ⟨h1,h2,h3⟩:=slice_bounds lo hi its.toArray.size
 unfold slicePick
 rw [h1,h2,h3]
 simp only [sliceRange_one,pick_run,List.size_toArray]<;>rfl
def rSlL (K:PySem.W.Frag):V->Option Int->Option Int->Hp->VK->Prop:=fun x lo hi H Q=>∃ a xs,x=.ref a∧SqL K H a xs∧∀ p,H p=none->Q (.ref p) (upd H p (.lst (cutV xs lo hi)))
theorem sl_list:SlR X (rSlL X.K):=by
 intro pins s σ H x v vl vu lo hi sl Q I rx hs pl pu h
 obtain ⟨a,xs,rfl,hx,q⟩:=h
 cases rx
 obtain ⟨its,r,ht,hz⟩:=I.list hx
 have hlen:=r.length
 refine ⟨"list",_,slot_list_getitem.lookup,ht.isList.typeIs,?_⟩
 refine wpAny_getItem_list_slice ht.isList hs pl pu .none (by simp) ?_ (by rw [List.size_toArray]<;>omega)
 rw [slicePick_cut,←hlen]
 refine ⟨.ref s.heap.objs.size,_,I.laid (t':=s.toks) (o:=.lst (cutV xs lo hi)) (fun b ob q=>Heap.get?_push_of_some _ q) (Nat.le_refl _) ?_,rfl,q _ (I.hok.fresh (Nat.le_refl _))⟩
 exact ⟨Nat.le_trans (cutV_length xs lo hi) hz,_,0,(r.drop (HT.sIx xs.length 0 lo)).take (HT.sIx xs.length xs.length hi - HT.sIx xs.length 0 lo),Heap.get?_push_size _ rfl⟩
theorem call_len_seq:CallR X (.builtin "len") (fun xs H Q=>∃ p ys,xs=[.ref p]∧(SqL X.K H p ys∨SqT X.K H p ys)∧Q (.int ys.length) H):=by
 intro pins s σ H xs us Q I r h
 obtain ⟨p,ys,rfl,hq,q⟩:=h
 obtain ⟨u,rfl,rx⟩:=vals1 r
 cases rx
 have hn:=line63
 rcases hq with hq | hq
 ·obtain ⟨its,r',pl,hz⟩:=I.list hq
  have hlen:=r'.length
  exact Calls.call_len_list pl.isList (by simp only [List.size_toArray]<;>omega) ⟨.int ys.length,H,I.tok _,⟨s.toks + 1,by rw [List.size_toArray,hlen]⟩,q⟩
 ·obtain ⟨its,r',pl,hz⟩:=I.tuple hq
  have hlen:=r'.length
  exact len_tuple pl (by simp only [List.size_toArray]<;>omega) ⟨.int ys.length,H,I.tok _,⟨s.toks + 1,by rw [List.size_toArray,hlen]⟩,q⟩
theorem call_len_str:CallR X (.builtin "len") (fun xs H Q=>∃ z,xs=[.str z]∧z.length≤sizeLine∧Q (.int z.length) H):=by
 intro pins s σ H xs us Q I r h
 obtain ⟨z,rfl,hz,q⟩:=h
 obtain ⟨u,rfl,t,rfl⟩:=vals1 r
 have hn:=line63
 exact len_str (by omega) ⟨.int z.length,H,I.tok _,⟨_,rfl⟩,q⟩
theorem CallR.or {f:Value}{r r':List V->Hp->VK->Prop} (h:CallR X f r) (h':CallR X f r'):CallR X f (fun xs H Q=>r xs H Q∨r' xs H Q):=by
 intro pins s σ H xs us Q I rs q
 rcases q with q | q
 ·exact h pins s σ H xs us Q I rs q
 ·exact h' pins s σ H xs us Q I rs q
theorem call_list_of:CallR X (.type "list") (fun xs H Q=>∃ p ys,xs=[.ref p]∧(SqL X.K H p ys∨SqT X.K H p ys)∧∀ l,H l=none->Q (.ref l) (upd H l (.lst ys))):=by
 intro pins s σ H xs us Q I r h
 obtain ⟨p,ys,rfl,hq,q⟩:=h
 obtain ⟨u,rfl,rx⟩:=vals1 r
 cases rx
 have fin:∀ (its:List Value),Vals ys its->ys.length≤sizeLine->∀ (h':Heap) (c':Nat),(∀ b o',s.heap.get? b=some o'->h'.get? b=some o')->
   h'.get? s.heap.objs.size=some { cls:=.type "list",dict:=none,data:=.seq its.toArray c',slots:=#[] }->EP X pins σ Q (.ref s.heap.objs.size) { s with heap:=h' }:=fun its r' hz h' c' kp e=>
  ⟨.ref s.heap.objs.size,_,I.laid (t':=s.toks) kp (Nat.le_refl _) (show ObjOk X.prog X.w _ h' _ (.lst ys) from ⟨hz,its,c',r',e⟩),rfl,q _ (I.hok.fresh (Nat.le_refl _))⟩
 rcases hq with hq | hq
 ·obtain ⟨its,r',pl,hz⟩:=I.list hq
  have hlen:=r'.length
  obtain ⟨o,ho,hc,n,hd⟩:=pl.isList
  exact call_list_seq p (.inl rfl) ho hc hd (fun h' c' kp e=>fin its r' hz h' c' kp e) (by simp only [List.size_toArray]<;>omega)
 ·obtain ⟨its,r',pl,hz⟩:=I.tuple hq
  have hlen:=r'.length
  obtain ⟨o,ho,hc,n,hd⟩:=pl
  exact call_list_seq p (.inr rfl) ho hc hd (fun h' c' kp e=>fin its r' hz h' c' kp e) (by simp only [List.size_toArray]<;>omega)
theorem call_tuple_of:CallR X (.type "tuple") (fun xs H Q=>∃ p ys,xs=[.ref p]∧((SqL X.K H p ys∧∀ l,H l=none->Q (.ref l) (upd H l (.tup ys)))∨(SqT X.K H p ys∧Q (.ref p) H))):=by
 intro pins s σ H xs us Q I r h
 obtain ⟨p,ys,rfl,h⟩:=h
 obtain ⟨u,rfl,rx⟩:=vals1 r
 cases rx
 rcases h with ⟨hq,q⟩ | ⟨hq,q⟩
 ·obtain ⟨its,r',pl,hz⟩:=I.list hq
  have hlen:=r'.length
  refine call_tuple_list pl.isList (fun h' kp=>?_) (by simp only [List.size_toArray]<;>omega)
  have I1:Inv X pins σ H { s with heap:=h' }:=I.kept (t':=s.toks) kp
  have I2:Inv X pins σ (upd H h'.objs.size (.tup ys)) { s with heap:=h'.push { cls:=.type "tuple",data:=.seq its.toArray } }:=
   I1.laid (t':=s.toks) (fun b o e=>Heap.get?_push_of_some _ e) (Nat.le_refl _) (show ObjOk X.prog X.w _ _ _ (.tup ys) from ⟨hz,its,r',IsTup.new _ _⟩)
  exact ⟨.ref h'.objs.size,_,I2,rfl,q _ (I1.hok.fresh (Nat.le_refl _))⟩
 ·obtain ⟨its,r',pl,hz⟩:=I.tuple hq
  exact call_tuple_same pl ⟨.ref p,H,I,rfl,q⟩
def tyV (K:PySem.W.Frag) (T:String) (x:V) (H:Hp):Prop:=match x with
 | .str _=>T = "str"
 | .int _=>T = "int"
 | .ref p=>(T = "list"∧∃ xs,SqL K H p xs)∨(T = "tuple"∧∃ o,K.lookup p=some o∧o.cls=.type "tuple"∧o.dict=none) ∨
   (T = "dict"∧((∃ kvs,H p=some (.dK kvs))∨∃ kvs,H p=some (.dT kvs)))∨(T = "set"∧∃ S n,H p=some (.set S n))
 | _=>False
theorem tyV_is {pins:List (Addr×Obj)}{σ:St}{H:Hp}{s:Shared}{T:String}{x:V}{v:Value} (I:Inv X pins σ H s) (r:RelV x v) (ty:tyV X.K T x H) :
  s.TypeIs v T∧∀ a,v=.ref a->∃ ob,s.heap.get? a=some ob∧ob.dict=none:=by
 cases x with
 | str z=>
   obtain ⟨t,rfl⟩:=r
   cases (show T = "str" from ty)
   exact ⟨typeIs_str s z t,fun _ e=>nomatch e⟩
 | int i=>
   obtain ⟨t,rfl⟩:=r
   cases (show T = "int" from ty)
   exact ⟨typeIs_int s i t,fun _ e=>nomatch e⟩
 | ref p=>
   cases r
   rcases ty with ⟨rfl,xs,hq⟩ | ⟨rfl,o,hk,hc,hd⟩ | ⟨rfl,hk⟩ | ⟨rfl,S,n,hk⟩
   ·obtain ⟨its,_,pl,_⟩:=I.list hq
    refine ⟨pl.isList.typeIs,fun a e=>?_⟩
    cases e
    obtain ⟨o,n,e,c,hd,_⟩:=pl
    exact ⟨o,e,hd⟩
   ·refine ⟨⟨o,I.kIn p o hk,hc⟩,fun a e=>?_⟩
    cases e
    exact ⟨o,I.kIn _ o hk,hd⟩
   ·have z:∃ o,s.heap.get? p=some o∧o.ExactDict:=by
     rcases hk with ⟨kvs,hk⟩ | ⟨kvs,hk⟩
     ·obtain ⟨_,_,_,_,o,_,_,e,ex,_⟩:=I.hok p _ hk
      exact ⟨o,e,ex⟩
     ·obtain ⟨_,_,_,_,o,_,_,e,ex,_⟩:=I.hok p _ hk
      exact ⟨o,e,ex⟩
    obtain ⟨o,e,ex⟩:=z
    refine ⟨⟨o,e,ex.1⟩,fun a e2=>?_⟩
    cases e2
    exact ⟨o,e,ex.2.1⟩
   ·obtain ⟨o,_,_,_,e,ex,_⟩:=I.hok p _ hk
    refine ⟨⟨o,e,ex.1⟩,fun a e2=>?_⟩
    cases e2
    exact ⟨o,e,ex.2.1⟩
 | _=>exact False.elim ty
def tBM (K:PySem.W.Frag) (T:String) (r:V->List V->Hp->VK->Prop) (to:TE) (t:TA):TE:=fun σ H Q=>to σ H fun x H1=>tyV K T x H1∧t σ H1 fun xs H2=>r x xs H2 Q
variable {o e:Expr}{es:List Expr}{to:TE}{t:TA}{name:Str}{apos cpos:Pos}{T id:String}{r:V->List V->Hp->VK->Prop}
theorem pe_bm (pa:PlainAttrs T) (slot:Slot T name id) (hty:typeOf (.builtin id)=pure (.type "method_descriptor")) (hm:MtR X id r) (ho:PE X o to) (ha:PA X (e::es) t)
  (hbase:attributeBase o name X.env (eval o X.env)=eval o X.env:=by rfl)
  (hfew:((backTo cpos (starEach (e::es) X.env)).all (fun x=>!x.1) && (backToKw cpos (keywordEach [] X.env)).all (fun x=>x.1.isSome)
    && decide ((e::es).length + ([]:List Keyword).length + (if ([]:List Keyword).isEmpty then 0 else 1)<30))=true:=by rfl)
  (hline:(apos.endLine == cpos.line)=true:=by rfl) (hs:starEach (e::es) X.env=(false,eval e X.env)::starEach es X.env:=by rfl) (hplain:(backTo cpos (starEach es X.env)).any (·.1)=false:=by rfl) :
  PE X (.Call (.Attribute o name apos) (e::es) [] cpos) (tBM X.K T r to t):=by
 intro pins s σ H Q I h
 refine wpAny_Call_method_late hbase hfew hline rfl (thn (ho pins s σ H _ I h) fun v s1 ⟨x,H1,I1,r1,ty,q1⟩=>?_)
 obtain ⟨h1,h2⟩:=tyV_is I1 r1 ty
 refine ⟨T,id,pa,slot,hty,h1,h2,?_⟩
 have hA:=ha cpos pins s1 σ H1 _ I1 q1
 rw [hs] at hA ⊢
 refine Calls.callWith_builtin (by show (false || (backTo cpos (starEach es X.env)).any (·.1))=false;rw [hplain]<;>rfl) (Calls.evalArgs_plain ?_)
 exact thn hA fun us s2 ⟨vs,H2,I2,r2,q2⟩=>hm pins s2 σ H2 x vs v us Q I2 r1 r2 q2
end
open PySem PySem.Spec PyProof.Rows
def MtM (X:Cx) (id:String) (r:V->List V->Hp->VK->Prop):Prop:=
 ∀ (pins:List (Addr×Obj)) (s:Shared) (σ:St) (H:Hp) (x:V) (xs:List V) (v:Value) (us:List Value) (Q:VK),Inv X pins σ H s->RelV x v->Vals xs us->r x xs H Q->
   wpAny (model X.prog X.w) X.A (call (.builtin id) (v::us)) (EP X pins σ Q) X.xe s
theorem Vals.one:∀ {x:V}{us:List Value},Vals [x] us->∃ u,us=[u]∧RelV x u
 | _,_,.cons r .nil=>⟨_,rfl,r⟩
theorem Vals.rep {xs:List V}{us:List Value} (h:Vals xs us):∀ k:Nat,Vals (List.replicate k xs).flatten (List.replicate k us).flatten
 | 0=>.nil
 | k + 1=>by
   rw [List.replicate_succ,List.replicate_succ,List.flatten_cons,List.flatten_cons]
   exact Vals.append h (Vals.rep h k)
theorem foldl_rep (its:List Value):∀ (k:Nat) (acc:List Value),
  List.foldl (fun x1 x2=>x1++x2) acc.toArray (List.replicate k its.toArray)=(acc++(List.replicate k its).flatten).toArray
 | 0,acc=>by simp
 | k + 1,acc=>by
   have e:acc.toArray++its.toArray=(acc++its).toArray:=by simp
   have e2:(acc++its)++(List.replicate k its).flatten=acc++(List.replicate (k + 1) its).flatten:=by
    rw [List.replicate_succ,List.flatten_cons,List.append_assoc]
   rw [←e2,←foldl_rep its k (acc++its),←e,List.replicate_succ,List.foldl_cons]
section
variable {X:Cx}{pins:List (Addr×Obj)}{σ:St}{H:Hp}{s:Shared}{l b:Addr}{xs ys zs:List V}
theorem Inv.lset {its its':List Value}{n:Nat}{f:Array Value->Array Value}{t':Nat} (I:Inv X pins σ H s) (hH:H l=some (.lst xs))
  (e:s.heap.get? l=some { cls:=.type "list",data:=.seq its.toArray n }) (hf:f its.toArray=its'.toArray) (hv:Vals ys its') (hz:ys.length≤sizeLine) :
  Inv X pins σ (upd H l (.lst ys)) { s with heap:=s.heap.update l (Obj.mapSeq f),toks:=t' }:=by
 have q:=PySem.IsL.update e f
 rw [hf] at q
 refine I.write (x:=l) (e:=l) (by rw [hH];exact trivial) (.inl rfl) (fun b' u hb hu=>(Heap.get?_update_other s.heap (Obj.mapSeq f) (Ne.symm hb)).trans hu) ⟨_,q⟩ ?_
 exact ⟨hz,its',_,hv,q⟩
theorem Inv.lnew {its:List Value}{t':Nat} (I:Inv X pins σ H s) (hv:Vals ys its) (hz:ys.length≤sizeLine) :
  Inv X pins σ (upd H s.heap.objs.size (.lst ys)) { s with heap:=s.heap.push { cls:=.type "list",data:=.seq its.toArray },toks:=t' }:=
 I.laid (fun _ _ q=>Heap.get?_push_of_some _ q) (Nat.le_refl _) ⟨hz,its,0,hv,Heap.get?_push_size _ rfl⟩
theorem Inv.fresh (I:Inv X pins σ H s):H s.heap.objs.size=none:=I.hok.fresh (Nat.le_refl _)
theorem Inv.lstM (I:Inv X pins σ H s) (hH:H l=some (.lst xs)):xs.length≤sizeLine∧∃ (its:List Value) (n:Nat),Vals xs its∧xs.length=its.length∧s.heap.get? l=some { cls:=.type "list",data:=.seq its.toArray n }:=by
 obtain ⟨z,its,n,r,e⟩:=I.hok l _ hH
 exact ⟨z,its,n,r,r.length,e⟩
theorem notLongL {n:Nat} (h:n≤sizeLine):Builtin.List.listTooLong n=false:=by
 unfold Builtin.List.listTooLong
 exact decide_eq_false (by omega)
end
section
variable {X:Cx}
def rAppend:V->List V->Hp->VK->Prop:=fun x vs H Q=>∃ l xs y,x=.ref l∧vs=[y]∧H l=some (.lst xs)∧xs.length<sizeLine∧Q .non (upd H l (.lst (xs++[y])))
theorem mt_append:MtM X "list.append" rAppend:=by
 intro pins s σ H x vs v us Q I rx rv h
 obtain ⟨l,xs,y,rfl,rfl,hH,hz,q⟩:=h
 cases rx
 obtain ⟨u,rfl,ru⟩:=rv.one
 obtain ⟨z,its,n,r,hl,e⟩:=I.lstM hH
 refine call_meets F.slot_list_append ⟨_,e,rfl⟩ F.entry_list_append (F.args_list_append_2 _ _) (PySem.list_append l its.toArray n u (by rw [List.size_toArray];omega)) ⟨e,?_⟩
 refine ⟨.non,_,I.lset (its':=its++[u]) hH e (by simp) (r.append (.cons ru .nil)) ?_,rfl,q⟩
 rw [List.length_append,List.length_singleton]
 omega
def rExtend:V->List V->Hp->VK->Prop:=fun x vs H Q=>∃ l b xs zs,x=.ref l∧vs=[.ref b]∧H l=some (.lst xs)∧H b=some (.lst zs)∧xs.length + zs.length≤sizeLine∧Q .non (upd H l (.lst (xs++zs)))
theorem mt_extend:MtM X "list.extend" rExtend:=by
 intro pins s σ H x vs v us Q I rx rv h
 obtain ⟨l,b,xs,zs,rfl,rfl,hH,hB,hz,q⟩:=h
 cases rx
 obtain ⟨u,rfl,ru⟩:=rv.one
 cases ru
 obtain ⟨z,its,n,r,hl,e⟩:=I.lstM hH
 obtain ⟨z2,its2,n2,r2,hl2,e2⟩:=I.lstM hB
 have hsz:its.toArray.size + its2.toArray.size≤sizeLine:=by rw [List.size_toArray,List.size_toArray];omega
 have hlong:¬ (!its.toArray.isEmpty && Builtin.List.listTooLong (its.toArray.size + its2.toArray.size))=true:=by
  rw [notLongL hsz,Bool.and_false]
  exact Bool.false_ne_true
 refine call_meets F.slot_list_extend ⟨_,e,rfl⟩ F.entry_list_extend (F.args_list_extend_2 _ _)
  (AutoSeq1.list_extend_list_list_0 l its.toArray n b its2.toArray n2 hlong (by rw [List.size_toArray];omega) (by omega)) ⟨e,e2,?_⟩
 refine ⟨.non,_,I.lset (its':=its++its2) hH e (by simp) (r.append r2) ?_,rfl,q⟩
 rw [List.length_append]
 omega
def rCat:R2:=fun x y H Q=>∃ l b xs zs,x=.ref l∧y=.ref b∧H l=some (.lst xs)∧H b=some (.lst zs)∧xs.length + zs.length≤sizeLine∧∀ p,H p=none->Q (.ref p) (upd H p (.lst (xs++zs)))
theorem op_cat:OpR X (binaryOp .Add) rCat:=by
 intro pins s σ H x y v u Q I rx ry h
 obtain ⟨l,b,xs,zs,rfl,rfl,hH,hB,hz,q⟩:=h
 cases rx
 cases ry
 obtain ⟨z,its,n,r,hl,e⟩:=I.lstM hH
 obtain ⟨z2,its2,n2,r2,hl2,e2⟩:=I.lstM hB
 refine PySem.P.add_list e e2 ?_ (by rw [List.size_toArray,List.size_toArray];omega)
 have ea:its.toArray++its2.toArray=(its++its2).toArray:=by simp
 rw [ea]
 exact ⟨.ref _,_,I.lnew (t':=s.toks) (r.append r2) (by rw [List.length_append];omega),rfl,q _ I.fresh⟩
def rRep:R2:=fun x y H Q=>∃ l k xs,x=.ref l∧y=.int k∧H l=some (.lst xs)∧-(2 ^ 63)≤k∧k<2 ^ 63∧xs.length * k.toNat≤sizeLine ∧
 ∀ p,H p=none->Q (.ref p) (upd H p (.lst (List.replicate k.toNat xs).flatten))
theorem len_rep {α:Type} (xs:List α) (k:Nat):(List.replicate k xs).flatten.length=k * xs.length:=by
 induction k with
 | zero=>simp
 | succ k ih=>rw [List.replicate_succ,List.flatten_cons,List.length_append,ih,Nat.succ_mul,Nat.add_comm]
theorem op_rep:OpR X (binaryOp .Mult) rRep:=by
 intro pins s σ H x y v u Q I rx ry h
 obtain ⟨l,k,xs,rfl,rfl,hH,h1,h2,hz,q⟩:=h
 cases rx
 obtain ⟨t,rfl⟩:=ry
 obtain ⟨z,its,n,r,hl,e⟩:=I.lstM hH
 have hlen:its.toArray.size * k.toNat≤sizeLine:=by rw [List.size_toArray,←hl];exact hz
 have hcap:¬ its.toArray.size * k.toNat > (2 ^ 63 - 1) / 8:=by
  have:(sizeLine:Nat)≤(2 ^ 63 - 1) / 8:=by decide
  omega
 have hfit:¬ (!Builtin.List.listFitsIndex k)=true:=by
  rw [fitsIndex_both h1 h2]
  exact Bool.false_ne_true
 have hlong:¬ Builtin.List.listTooLong (its.toArray.size * k.toNat)=true:=by
  rw [notLongL hlen]
  exact Bool.false_ne_true
 have hnew:List.foldl (fun x1 x2=>x1++x2) #[] (List.replicate (if its.toArray.isEmpty=true then 0 else k.toNat) its.toArray)=(List.replicate k.toNat its).flatten.toArray:=by
  have f0:∀ m:Nat,List.foldl (fun x1 x2=>x1++x2) #[] (List.replicate m its.toArray)=(List.replicate m its).flatten.toArray:=fun m=>by
   have:=foldl_rep its m []
   rw [List.nil_append] at this
   exact this
  rw [f0]
  cases its with
  | nil=>simp
  | cons a r'=>rw [if_neg (by simp)]
 refine wpAny_binaryOp_repeat_ref (T := "list") (U := "int") (by decide) ⟨_,e,rfl⟩ (fun s'=>typeIs_int s' k t) noFill_list_mul F.fills_int_mul F.slot_int_rmul repeat_list F.slot_int_index.lookup
  (call_meets F.slot_int_rmul (typeIs_int s k t) F.entry_int_rmul (F.args_int_rmul_2 _ _) (int___rmul___int_list k t l its.toArray n)
    ⟨e,rfl,⟨_,e,rfl⟩,call_meets F.slot_list_mul ⟨_,e,rfl⟩ F.entry_list_mul (F.args_list_mul_2 _ _) (AutoListH.list___mul___list_int_3 l its.toArray n k t hfit hcap hlong) ⟨e,?_⟩⟩)
 rw [hnew]
 exact ⟨.ref _,_,I.lnew (t':=s.toks) (r.rep k.toNat) (by rw [len_rep,Nat.mul_comm];exact hz),rfl,q _ I.fresh⟩
end
end L2
namespace Att
open PySem PySem.W PySem.Calls PyProof.Rows
theorem ints_of_wellAll {P:Params}{h:Heap}:∀ (ns:List Int) (vs:List Value),WellAll P h vs (ns.map WData.int)->IntsAre vs ns:=by
 intro ns
 induction ns with
 | nil=>
   intro vs w
   rw [List.map_nil] at w
   cases w
   exact .nil
 | cons n ns ih=>
   intro vs w
   rw [List.map_cons] at w
   cases w with
   | cons a b=>
     cases a
     exact .cons _ _ (ih _ b)
theorem script_of {l:OpenLaw}{n:Nat} (hn:l.most=some n) {P:Params}{h:Heap}{args:List WData}{vals:List Value}
  (hpre:l.row.toRowW.claim.pre args=true) (hwl:WellAll P h vals args) :
  ∃ a vs ns,vals=[Value.ref a]∧args=[WData.list (ns.map WData.int)]∧h.get? a=some { cls:=.type "list",data:=.seq vs.toArray }∧IntsAre vs ns∧ns.length≤n:=by
 have hsh:WShape.hasAll [] args [.list .int]=true:=(pre_splitW hpre).1
 have hc:l.pre.holds [] { args:=args }=true:=(pre_splitW hpre).2
 obtain ⟨d,r,rfl,h1,h2⟩:=hasAllW_cons hsh
 obtain rfl:=hasAllW_nil h2
 obtain ⟨xs,rfl,h3⟩:=hasW_list h1
 obtain ⟨ns,rfl⟩:=items_int h3
 have hlen:ns.length≤n:=by
  unfold OpenLaw.pre at hc
  have h4:(WTm.not (.lt (.lit (.int (n:Int))) (.len (.arg 0)))).holds [] { args:=[.list (ns.map .int)] }=true:=by
   have h4:=(holds_andW hc).1
   rw [hn] at h4
   exact h4
  have h5:=condW_of h4 (w_not (w_lt w_lit (w_len_list (w_arg rfl))))
  rw [List.length_map] at h5
  refine Nat.le_of_not_lt fun q=>?_
  have q':(n:Int)<((ns.length:Nat):Int):=by omega
  first
   | (rw [decide_eq_true q'] at h5;exact absurd h5 (by decide))
   | (simp at h5;omega)
 cases hwl with
 | cons w1 w2=>
   cases w2
   cases w1 with
   | list ho hall=>exact ⟨_,_,ns,rfl,rfl,ho,ints_of_wellAll ns _ hall,hlen⟩
theorem post_true (l:OpenLaw) (args:List WData):l.row.toRowW.claim.post args (.bool true) args=true:=
 postW_of (r:=l.row.toRowW) (X:=(true == true))
  (show WShape.has [] (.bool true) .bool=true by first | rfl | decide | simp [WShape.has,WShape.arms,WShape.armsAll])
  (show (WTm.eq .res (.lit (.bool true))).value [] { args:=args,res:=some (.bool true),after:=args }=some (.bool (true == true)) from w_eq_bool (w_res rfl) w_lit) rfl
theorem attach_call {l:OpenLaw}{n:Nat}{q:Program}{loose:List Str}{XP:(Str->Option Value)->Heap->Prop}{YP:World->Heap->Prop}{d:DefRec}
  (hn:l.most=some n) (hdf:d.params.defaults=[])
  (call:∀ (w:World) (s₀ s₁:Shared) (mg mb:Str->Option Value) (fa:Addr) (o:Obj) (pm cd doc:Value) (a:Addr) (vs:List Value) (ns:List Int),
    Ground q loose [] XP w s₀ mg mb s₁.heap->YP w s₁.heap->
    s₁.heap.get? fa=some o->o.data=.func (docDef d.name d.params d.body d.scope pm cd doc)->s₁.heap.CodeRec cd d.name->mg d.name=some (.ref fa)->
    s₁.heap.get? a=some { cls:=.type "list",data:=.seq vs.toArray }->IntsAre vs ns->ns.length≤n->s₁.gens=#[]->
    codeAny (model l.prog w) callerA (.call (.ref fa) ⟨[.ref a],[]⟩) (fun r s'=>r=.ok (.ret (.bool true))∧OldK s₁.heap s'.heap∧s'.os=s₁.os∧AllBare s'.gens) s₁) :
  WalkO q loose XP YP l.row.toRowW d [] (fun f vs=>PySem.call f vs):=by
 intro w s₀ s₁ mg mb G Y fa o pm cd doc dV kV ho hd hcd hD hmg hg args vals as hpre hlay hrd hwl hlo
 obtain rfl:dV=.none:=Dflts.none hD hdf
 obtain rfl:kV=.none:=Dflts.noKw hD
 obtain ⟨a,vs,ns,rfl,rfl,hobj,hints,hlen⟩:=script_of hn hpre hwl
 refine enter_call (codeAny_mono (call w s₀ s₁ mg mb fa o pm cd doc a vs ns G Y ho (fd_plain hd) hcd hmg hobj hints hlen hg) fun r s' hq=>?_)
 obtain ⟨rfl,h2,h3,h4⟩:=hq
 exact ⟨.inl ⟨.bool true,.bool true,[],rfl,fun _=>rfl,.bool true,post_true l _,fun _=>⟨List.Pairwise.nil,fun _ hm=>(nomatch hm)⟩⟩,h2,h3,h4⟩
end Att
namespace L2
open PySem PySem.Spec PyProof.Rows
theorem vals_ints:∀ {vs:List Value}{ns:List Int},IntsAre vs ns->Vals (ns.map V.int) vs
 | _,_,.nil=>.nil
 | _,_,.cons n t h=>.cons ⟨t,rfl⟩ (vals_ints h)
def Only (H:Hp):Prop:=∀ b,H b=none∨∃ o xs,H b=some (.frz o (.lst xs))
theorem law_call {P:Program}{w:World}{K:PySem.W.Frag}{mg mb:Str->Option Value}{CX:CXT}{k:Nat}{fa a:Addr}{fd:FuncData}{x:Str}{sp:Sp}{s₁:Shared}{vs:List Value}{ns:List Int}
  (KX:K.In s₁.heap) (hns:s₁.heap.Ns mainGlobals mg) (hb:s₁.heap.Ns builtinsNs mb) (hbb:∀ x:Str,x≠"__name__"->mb x=bootBuiltins x) (hlim:s₁.heap.NoLimit) (hg:s₁.gens=#[])
  (ha:s₁.heap.get? a=some { cls:=.type "list",data:=.seq vs.toArray }) (hi:IntsAre vs ns) (hl:ns.length≤sizeLine) (hr:Room k callerA)
  (F:∀ base:Heap,K.In base->base.Ns mainGlobals mg->FnOk P w K mg base CX k fa fd [x] sp) (hbind:∀ (s:Shared) (u:Value),BindsTo s fd ⟨[u],[]⟩ [(x,u)])
  (hsp:∀ H:Hp,Only H->SqL K H a (ns.map V.int)->sp [.ref a] H (fun v _=>v=.bl true) fun _ _ _=>False)
  (hCX:∀ H e s',CX [] H s₁ (fun _ _ _=>False) e s'->False) :
  codeAny (model P w) callerA (.call (.ref fa) ⟨[.ref a],[]⟩) (fun r s'=>r=.ok (.ret (.bool true))∧OldK s₁.heap s'.heap∧s'.os=s₁.os∧AllBare s'.gens) s₁:=by
 have rv:=vals_ints hi
 have lenV:=hi.length
 -- from an abstract heap in which nothing but the script may be tracked
 have core:∀ H:Hp,Only H->SqL K H a (ns.map V.int)->HOk P w H s₁.heap->(∀ b,H b≠none->b=a)->(H a≠none->K.lookup a=none)->
   codeAny (model P w) callerA (.call (.ref fa) ⟨[.ref a],[]⟩) (fun r s'=>r=.ok (.ret (.bool true))∧OldK s₁.heap s'.heap∧s'.os=s₁.os∧AllBare s'.gens) s₁:=by
  intro H hO hS hok hA hK
  have base_of:∀ {b:Addr}{o:Obj},s₁.heap.get? b=some o->H b=none->(hidT s₁.heap H).get? b=some o:=fun e n=>hidT_get e n
  have noA:∀ {b:Addr}{o:Obj}{es:Array DictEntry}{ep:Nat},s₁.heap.get? b=some o->o.data=.dict es ep->H b=none:=fun {b o es ep} e d=>by
   cases q:H b with
   | none=>rfl
   | some u=>
     have e':b=a:=hA b (by rw [q];simp)
     subst e'
     rw [ha] at e;cases e
     have d':Data.seq vs.toArray _=Data.dict es ep:=d
     cases d'
  have nsK:∀ {b:Addr}{m:Str->Option Value},s₁.heap.Ns b m->(hidT s₁.heap H).Ns b m:=fun {b m} ⟨o,es,ep,e,d,r⟩=>⟨o,es,ep,base_of e (noA e d),d,r⟩
  have hKb:K.In (hidT s₁.heap H):=fun b o e=>base_of (KX b o e) (by
   cases q:H b with
   | none=>rfl
   | some u=>
     have e':b=a:=hA b (by rw [q];simp)
     subst e'
     rw [hK (by rw [q];simp)] at e;cases e)
  have hM:Mod K mg (hidT s₁.heap H):=⟨hKb,nsK hns,⟨mb,nsK hb,hbb⟩,let ⟨mc,h1,h2⟩:=hlim;⟨mc,nsK h1,h2⟩⟩
  have e0:Env0 P w K mg (hidT s₁.heap H) callerA [] s₁ H:=⟨rfl,hM,fun b o e=>of_hidT e,Nat.le_of_eq (hidT_size _ _),trivial,fun b hb=>absurd (show b∈([]:List Addr) from hb) (by simp),hok,.of_eq hg⟩
  refine codeAny_mono ((F _ hKb (nsK hns)).run callerA [] s₁ H ⟨[.ref a],[]⟩ [.ref a] [.ref a] _ _ hr e0 (hbind s₁ (.ref a)) (.cons rfl .nil) (hsp H hO hS)) fun r s' h=>?_
  cases r with
  | error e=>exact (hCX H e s' h).elim
  | ok fl=>
    cases fl with
    | next=>exact False.elim h
    | brk=>exact False.elim h
    | cont=>exact False.elim h
    | ret u=>
      obtain ⟨v,H',os,bare,un,hok',r',q⟩:=h
      have q':v=.bl true:=q
      subst q'
      obtain rfl:u=Value.bool true:=r'
      refine ⟨rfl,OldK.of_keep fun b o e=>?_,os,bare⟩
      cases q:H b with
      | none=>exact un.keep b o e q (by intro z;exact absurd (show b∈([]:List Addr) from z) (by simp)) (by simp)
      | some u=>
        rcases hO b with z | ⟨ob,xs,z⟩
        ·rw [q] at z;cases z
        ·have z2:=un.frzs b ob _ z
         obtain ⟨e1,_⟩:=hok b _ z
         obtain ⟨e2,_⟩:=hok' b _ z2
         rw [e] at e1;cases e1
         exact e2
 cases hk:K.lookup a with
 | some o=>
   -- the script is one of the module's own objects
   have e:=KX a o hk
   rw [ha] at e
   cases e
   refine core (fun _=>none) (fun _=>.inl rfl) (.inr ⟨_,vs.toArray,_,hk,rfl,rfl,rfl,by rw [List.size_toArray,lenV];exact hl,by simpa using rv⟩) (fun b u z=>by have z':(none:Option HO)=some u:=z;cases z') (fun b z=>absurd rfl z) fun z=>absurd rfl z
 | none=>
   refine core (fun b=>if b=a then some (.frz { cls:=.type "list",data:=.seq vs.toArray } (.lst (ns.map V.int))) else none) (fun b=>?_) (.inl (.inr ⟨{ cls:=.type "list",data:=.seq vs.toArray },if_pos rfl⟩)) (fun b u z=>?_) (fun b z=>?_) fun _=>hk
   ·by_cases hb:b=a
    ·exact .inr ⟨_,_,if_pos hb⟩
    ·exact .inl (if_neg hb)
   ·by_cases hb:b=a
    ·have z':=(if_pos hb).symm.trans z
     cases z'
     subst hb
     exact ⟨ha,by rw [List.length_map];exact hl,vs,_,rv,ha⟩
    ·have z':=(if_neg hb).symm.trans z
     cases z'
   ·by_cases hb:b=a
    ·exact hb
    ·exact absurd (if_neg hb) z
open PySem PySem.Spec PyProof.Rows
theorem walk_of {l:PySem.W.OpenLaw}{n k:Nat}{q:Program}{loose:List Str}{XP:(Str->Option Value)->Heap->Prop}{YP:World->Heap->Prop}{d:DefRec}{K:Params->PySem.W.Frag}{CX:World->CXT}{sp:World->Sp}{x:Str}
  (hn:l.most=some n) (hn2:n≤sizeLine) (hdf:d.params.defaults=[]) (hr:Room k callerA)
  (hY:∀ (w:World) (h:Heap),YP w h->(K w.params).In h)
  (F:∀ (w:World) (mg:Str->Option Value) (fa:Addr) (h:Heap),(K w.params).In h->h.Ns mainGlobals mg->mg d.name=some (.ref fa)->
    ∃ fd:FuncData,(∀ (s:Shared) (u:Value),BindsTo s fd ⟨[u],[]⟩ [(x,u)]) ∧
      ∀ base:Heap,(K w.params).In base->base.Ns mainGlobals mg->FnOk l.prog w (K w.params) mg base (CX w) k fa fd [x] (sp w))
  (hsp:∀ (w:World) (H:Hp) (a:Addr) (ns:List Int),ns.length≤n->Only H->SqL (K w.params) H a (ns.map V.int)->sp w [.ref a] H (fun v _=>v=.bl true) fun _ _ _=>False)
  (hCX:∀ (w:World) (H:Hp) (s:Shared) (e:Value) (s':Shared),CX w [] H s (fun _ _ _=>False) e s'->False) :
  PySem.W.WalkO q loose XP YP l.row.toRowW d [] (fun f vs=>PySem.call f vs):=by
 refine Att.attach_call hn hdf fun w s₀ s₁ mg mb fa o pm cd doc a vs ns G Y ho hd hcd hmg hobj hints hlen hg=>?_
 have KX:=hY w _ Y
 obtain ⟨fd,hb,hF⟩:=F w mg fa _ KX G.T.g hmg
 exact law_call KX G.T.g G.T.b G.T.builtins G.T.nolimit hg hobj hints (Nat.le_trans hlen hn2) hr hF hb (fun H hO hS=>hsp w H a ns hlen hO hS) fun H e s'=>hCX w H s₁ e s'
open PySem PySem.Spec PyProof.Rows
def inClass (s:Stmt) (j:Nat):Stmt:=match s with
 | .ClassDef _ _ _ body _ _ _ _ _ _ _=>body.getD j (.Pass ⟨0,0,0,0⟩)
 | _=>.Pass ⟨0,0,0,0⟩
def defArgs (s:Stmt):Arguments:=match s with
 | .FunctionDef _ a _ _ _ _ _ _ _ _=>a
 | _=>{ posonlyargs:=[],args:=[],vararg:=none,kwonlyargs:=[],kw_defaults:=[],kwarg:=none,defaults:=[] }
def defBody (s:Stmt):List Stmt:=match s with
 | .FunctionDef _ _ b _ _ _ _ _ _ _=>b
 | _=>[]
def defScope (s:Stmt):Scope:=match s with
 | .FunctionDef _ _ _ _ _ _ sc _ _ _=>sc
 | _=>{ kind:=.function,names:=[],isGenerator:=false,isCoroutine:=false }
abbrev E0:XK:=fun _ _ _=>False
structure Fun (K:PySem.W.Frag) (x qual:Str) (st:Stmt) (f:Addr) (fd:FuncData):Prop where
 ex:∃ (oc:Value) (od:Option Addr) (kV doc pm:Value) (an:Option Addr) (cdv ct:Value) (osl:Array (Option Value)),
  fd=PySem.W.fnOf x qual (defArgs st) (defBody st) (defScope st) .none kV doc pm an cdv ct∧K.lookup f=some ⟨oc,od,.func fd,osl⟩∧PySem.W.codeIn K cdv qual=true
 kp:PySem.W.keepIn K (.ref f)=true
section
variable {P:Program}{w:World}{K:PySem.W.Frag}{mg:Str->Option Value}{base:Heap}
theorem Fun.binds {x qual:Str}{st:Stmt}{f:Addr}{fd:FuncData}{ps:List Str} (F:Fun K x qual st f fd)
  (h:∀ (kV doc pm:Value) (an:Option Addr) (cdv ct:Value) (us:List Value),us.length=ps.length->bindArgs (PySem.W.fnOf x qual (defArgs st) (defBody st) (defScope st) .none kV doc pm an cdv ct) ⟨us,[]⟩=pure (ps.zip us)):Binds K fd ps []:=by
 obtain ⟨oc,od,kV,doc,pm,an,cdv,ct,osl,rfl,lk,hcd⟩:=F.ex
 exact .all (h kV doc pm an cdv ct)
theorem fun_mk {x qual:Str}{st:Stmt}{f:Addr}{oc:Value}{od an:Option Addr}{osl:Array (Option Value)}{kV doc pm cdv ct:Value} (l:K.lookup f=some ⟨oc,od,.func (PySem.W.fnOf x qual (defArgs st) (defBody st) (defScope st) .none kV doc pm an cdv ct),osl⟩)
  (c:PySem.W.codeIn K cdv qual=true) (k:PySem.W.keepIn K (.ref f)=true):Fun K x qual st f (PySem.W.fnOf x qual (defArgs st) (defBody st) (defScope st) .none kV doc pm an cdv ct):=⟨⟨oc,od,kV,doc,pm,an,cdv,ct,osl,rfl,l,c⟩,k⟩
end
theorem iteF {A B:Prop} (h:B):if false=true then A else B:=by
 rw [if_neg Bool.false_ne_true]
 exact h
theorem iteT {A B:Prop} (h:A):if true=true then A else B:=by
 rw [if_pos rfl]
 exact h
def Same (H H':Hp):Prop:=∀ b o,H b=some o->H' b=some o
theorem Same.refl (H:Hp):Same H H:=fun _ _ h=>h
mutual
inductive Rep (K:PySem.W.Frag) (H:Hp):V->PyData->Prop
 | non:Rep K H .non .none
 | bl (b:Bool):Rep K H (.bl b) (.bool b)
 | int (i:Int):Rep K H (.int i) (.int i)
 | str (x:Str):Rep K H (.str x) (.str x)
 | lst {a:Addr}{xs:List V}{ds:List PyData}:SqL K H a xs->Reps K H xs ds->Rep K H (.ref a) (.list ds)
 | tup {a:Addr}{xs:List V}{ds:List PyData}:SqT K H a xs->Reps K H xs ds->Rep K H (.ref a) (.tuple ds)
inductive Reps (K:PySem.W.Frag) (H:Hp):List V->List PyData->Prop
 | nil:Reps K H [] []
 | cons {v:V}{d:PyData}{vs:List V}{ds:List PyData}:Rep K H v d->Reps K H vs ds->Reps K H (v::vs) (d::ds)
end
section
variable {X:Cx}{pins:List (Addr×Obj)}{σ:St}{H:Hp}{s:Shared}
mutual
theorem Rep.reads (I:Inv X pins σ H s):∀ {v:V}{d:PyData}{u:Value},Rep X.K H v d->RelV v u->∃ as,Reads s.heap u d as
 | _,_,_,.non,r=>by cases r;exact ⟨_,.none⟩
 | _,_,_,.bl b,r=>by cases r;exact ⟨_,.bool b⟩
 | _,_,_,.int i,r=>by obtain ⟨t,rfl⟩:=r;exact ⟨_,.int i t⟩
 | _,_,_,.str x,r=>by obtain ⟨t,rfl⟩:=r;exact ⟨_,.str x t⟩
 | _,_,_,.lst h hs,r=>by
   cases r
   obtain ⟨its,rv,⟨o,n,h1,h2,_,h3⟩,_⟩:=I.list h
   obtain ⟨as,ra⟩:=Reps.reads I hs rv
   exact ⟨_,.list h1 h2 h3 ra⟩
 | _,_,_,.tup h hs,r=>by
   cases r
   obtain ⟨its,rv,⟨o,h1,h2,n,h3⟩,_⟩:=I.tuple h
   obtain ⟨as,ra⟩:=Reps.reads I hs rv
   exact ⟨_,.tuple h1 h2 h3 ra⟩
theorem Reps.reads (I:Inv X pins σ H s):∀ {vs:List V}{ds:List PyData}{us:List Value},Reps X.K H vs ds->Vals vs us->∃ as,ReadsAll s.heap us ds as
 | _,_,_,.nil,r=>by cases r;exact ⟨_,.nil⟩
 | _,_,_,.cons h hs,r=>by
   cases r with
   | cons r1 r2=>
     obtain ⟨a1,e1⟩:=Rep.reads I h r1
     obtain ⟨a2,e2⟩:=Reps.reads I hs r2
     exact ⟨_,.cons e1 e2⟩
end
end
theorem same_new {H:Hp}{p:Addr} (h:H p=none) (o:HO):Same H (upd H p o):=fun b u q=>by rw [upd_ne (ne_of_none q h)];exact q
section
variable {X:Cx}
def yV (K:PySem.W.Frag) (neg:Bool):R2:=fun x y H Q=>∃ da db,Rep K H x da∧Rep K H y db∧da.canLay0=true∧db.canLay0=true∧da.depth≤60∧Q (.bl (if neg then !PyData.eqv da db else PyData.eqv da db)) H
theorem CT (hu:X.A.units + 64<cLine):OpR X (compareOp .Eq) (yV X.K false):=by
 intro pins s σ H x y v u Q I rx ry h
 obtain ⟨da,db,ha,hb,la,lb,hd,q⟩:=h
 obtain ⟨as,ra⟩:=ha.reads I rx
 obtain ⟨bs,rb⟩:=hb.reads I ry
 exact PySem.SeqAt.compareEq_reads ra rb la lb (by omega) ⟨.bl _,H,I,rfl,q⟩
theorem CV (hu:X.A.units + 64<cLine):OpR X (compareOp .NotEq) (yV X.K true):=by
 intro pins s σ H x y v u Q I rx ry h
 obtain ⟨da,db,ha,hb,la,lb,hd,q⟩:=h
 obtain ⟨as,ra⟩:=ha.reads I rx
 obtain ⟨bs,rb⟩:=hb.reads I ry
 exact PySem.SeqAt.compareNe_reads ra rb la lb (by omega) ⟨.bl _,H,I,rfl,q⟩
def Du (i j:Int):Prop:=IntMulOk i j
theorem Aj:OpR X (binaryOp .Mult) (rI Du fun i j=>.int (i * j)):=opI fun _ _ _ _ _ _ _ hc q=>mul_int q hc
theorem yt:CallR X (.builtin "isinstance") (fun xs H Q=>∃ x t c b,xs=[x,.ty c]∧TyOf X.K H x t∧PySem.W.kitOne X.K t (.type c)=some b∧Q (.bl b) H):=by
 intro pins s σ H xs us Q I r h
 obtain ⟨x,t,c,b,rfl,ty,e,q⟩:=h
 obtain ⟨u,w',rfl,r1,r2⟩:=vals2 r
 cases r2
 exact isinst_ok I r1 ty e fun tk=>⟨.bl b,H,I.tok _,rfl,q⟩
end
open PySem PySem.Spec PyProof.Rows
structure DefAt (K:PySem.W.Frag) (mg:Str->Option Value) (x:Str) (st:Stmt):Prop where
 ex:∃ f fd,Fun K x x st f fd∧mg x=some (.ref f)
theorem aP {K:PySem.W.Frag}{h:Heap}{mg:Str->Option Value}{x:Str}{st:Stmt}{f:Addr}{oc:Value}{od an:Option Addr}{osl:Array (Option Value)}{kV doc pm cdv ct:Value} (X:K.In h) (G:h.Ns mainGlobals mg)
  (a:PySem.W.nsIn K mainGlobals x=some (some (.ref f))) (l:K.lookup f=some ⟨oc,od,.func (PySem.W.fnOf x x (defArgs st) (defBody st) (defScope st) .none kV doc pm an cdv ct),osl⟩) (c:PySem.W.codeIn K cdv x=true) (k:PySem.W.keepIn K (.ref f)=true):DefAt K mg x st:=
 ⟨f,_,fun_mk l c k,PySem.W.mg_of X G a⟩
section
variable {X:Cx}{j k:Nat}{ps:List Str}{sp:Sp}{x:Str}{p pos:Pos}{e:Expr}{es:List Expr}{t:TA}
theorem Ga {id:String}{r:List V->Hp->VK->Prop} (hc:CallR X (.builtin id) r) (hm:X.mg x=none) (ha:PA X (e::es) t) (hg:Gl X x:=by rfl) (hv:bootBuiltins x=some (.builtin id):=by decide +kernel) (hn:x≠"__name__":=by decide) (hdb:(x == ("__debug__":Str))=false:=by decide)
  (he:starEach (e::es) X.env=(false,eval e X.env)::starEach es X.env:=by rfl) (hpl:(backTo pos (starEach es X.env)).any (·.1)=false:=by rfl) :
  PE X (.Call (.Name x p) (e::es) [] pos) (tCB r t):=pe_callB hc hg hm hv ha hn hdb he hpl
theorem Ef {T:String} (hm:X.mg x=none) (hg:Gl X x:=by rfl) (hv:bootBuiltins x=some (.type T):=by decide +kernel) (hn:x≠"__name__":=by decide) (hdb:(x == ("__debug__":Str))=false:=by decide):PE X (.Name x pos) (tC (.ty T)):=
 pe_bltn hg hm hv rfl hn hdb
end
end L2
namespace L2
open PySem PySem.Spec PyProof.Rows
open PySem PySem.Spec PyProof.Rows
end L2
namespace L2
open PySem PySem.Spec PyProof.Rows
def eZ (P:Program) (w:World):CXT:=fun outer H s E e s'=>
 ∃ (x:Addr) (C a0:Value) (H':Hp) (B:Heap),e=.ref x∧s'.os=s.os∧AllBare s'.gens∧Un (frs outer) [] H H' s.heap s'.heap∧HOk P w H' s'.heap∧Heap.FlyingW B outer x C a0 s'.heap ∧
   (∀ b,H' b≠none->∃ o,B.get? b=some o)∧(∀ b o,s.heap.get? b=some o->b∉frs outer->∃ o',B.get? b=some o')∧E C none H'
theorem yI {env:Env}{l:List Env}{L:Addr} (h:env.frame=some L):frs (env::l)=L::frs l:=by
 unfold frs;rw [List.filterMap_cons,h]
theorem Bk {fs:List Addr}{H H':Hp}{h0 h h' B:Heap} (u:Un fs [] H H' h0 h) (hB:B.StaysIn h) (hB':B.StaysIn h') (up:h.UpToSlots h')
  (fr:∀ b∈fs,∃ o,h.get? b=some o∧∀ vs,o.data≠.fields vs) (cov:∀ b o,h0.get? b=some o->b∉fs->∃ o',B.get? b=some o'):Un fs [] H H' h0 h' where
 keep b o e n hb hx:=by
  have h1:=u.keep b o e n hb hx
  obtain ⟨o',e'⟩:=cov b o e hb
  have h2:=hB b o' e'
  rw [h1] at h2;cases h2
  exact hB' b o e'
 slot b o e n hb hx:=by
  obtain ⟨sl,h1⟩:=u.slot b o e n hb hx
  obtain ⟨o1,h2,nf⟩:=fr b hb
  rw [h1] at h2;cases h2
  obtain ⟨sl2,h3⟩:=up b _ h1 nf
  exact ⟨sl2,h3⟩
 free:=u.free
 there b o e hx:=by
  by_cases hb:b∈fs
  ·obtain ⟨o1,h2,nf⟩:=fr b hb
   obtain ⟨sl2,h3⟩:=up b _ h2 nf
   exact ⟨_,h3⟩
  ·obtain ⟨o',e'⟩:=cov b o e hb
   exact ⟨o',hB' b o' e'⟩
 tups:=u.tups
 frzs:=u.frzs
 tbls:=u.tbls
theorem yJ {P:Program}{w:World}{H':Hp}{h h' B:Heap} (ok:HOk P w H' h) (hB:B.StaysIn h) (hB':B.StaysIn h') (cov:∀ b,H' b≠none->∃ o,B.get? b=some o):HOk P w H' h':=fun a o e=>
 (ok a o e).stay (fun b u hb hu=>by
   have hn:H' b≠none:=by
    rcases hb with rfl | hb
    ·rw [e];simp
    ·rw [hb];simp
   obtain ⟨o',e'⟩:=cov b hn
   have:=hB b o' e'
   rw [hu] at this;cases this
   exact hB' b u e') (fun _ h=>h) (fun _ _ h=>h)
section
variable {P:Program}{w:World}{K:PySem.W.Frag}{mg:Str->Option Value}{base:Heap}{N:List Str}{qual:Str}{scope:Scope}{f:Addr}{cd:Value}{A:Around}{outer:List Env}{s:Shared}{H:Hp}{E:XK}
abbrev fU (P:Program) (w:World) (K:PySem.W.Frag) (mg:Str->Option Value) (base:Heap) (N:List Str) (qual:Str) (scope:Scope) (f:Addr) (cd:Value) (A:Around) (outer:List Env) (s:Shared) (H:Hp) (E:XK):Cx:=
 cxOf (eZ P w) P w K mg base N qual scope f cd A outer s H E
theorem bh:Passes (eZ P w) (fU P w K mg base N qual scope f cd A outer s H E) E:=by
 intro pins σ H1 s1 e s' I hf
 obtain ⟨x,C,a0,H',B,rfl,os,bare,un,hok,fl,ci,cii,q⟩:=hf
 have J:Inv (fU P w K mg base N qual scope f cd A outer s H E) pins σ H' s':=I.call' (ch:=[]) os un hok bare (fun b z=>absurd z (by simp))
 have hfr:(fU P w K mg base N qual scope f cd A outer s H E).A.frames=some ((fU P w K mg base N qual scope f cd A outer s H E).env::outer):=I.ok.frames
 have hfs:∀ b∈frs outer,∃ o,s'.heap.get? b=some o∧∀ vs,o.data≠.fields vs:=fun b hb=>(fl.2.2.1.2.2.mem hb).2
 have hfrm:(fU P w K mg base N qual scope f cd A outer s H E).env.frame=some (fU P w K mg base N qual scope f cd A outer s H E).env.locals:=rfl
 have cov:∀ b o,s.heap.get? b=some o->b∉frs outer->∃ o',B.get? b=some o':=fun b o e hb=>by
  obtain ⟨o1,h1⟩:=I.base.there b o e (show b∉([]:List Addr) by simp)
  refine cii b o1 h1 ?_
  show b∉frs ((fU P w K mg base N qual scope f cd A outer s H E).env::outer)
  rw [yI hfrm]
  intro hm
  rcases List.mem_cons.mp hm with rfl | hm
  ·exact absurd (Heap.lt_size e) (Nat.not_lt.mpr I.ok.above)
  ·exact hb hm
 show wpAny _ _ (leaving _ (.ref x)) _ _ s'
 refine wpAny_leaves_onW hfr rfl fl fun h' fl' up=>?_
 exact ⟨x,C,a0,H',B,rfl,J.os,bare,Bk J.base fl.1 fl'.1 up hfs cov,yJ hok fl.1 fl'.1 ci,fl',ci,cov,q⟩
end
def pick (js:List Nat) (σ:St):St:=js.map fun j=>(σ[j]?).getD none
theorem xW {fs ex:List Addr}{H H':Hp}{h0 h h':Heap}{C:Addr} (u:Un fs ex H H' h0 h) (hs:Heap.SameBut C h h') (hC:h0.objs.size≤C):Un fs ex H H' h0 h' where
 keep b o e n hb hx:=(hs.2 b (Nat.ne_of_lt (Nat.lt_of_lt_of_le (Heap.lt_size e) hC))).trans (u.keep b o e n hb hx)
 slot b o e n hb hx:=by
  obtain ⟨sl,e1⟩:=u.slot b o e n hb hx
  exact ⟨sl,(hs.2 b (Nat.ne_of_lt (Nat.lt_of_lt_of_le (Heap.lt_size e) hC))).trans e1⟩
 free:=u.free
 there b o e hx:=by
  obtain ⟨o',e1⟩:=u.there b o e hx
  exact ⟨o',(hs.2 b (Nat.ne_of_lt (Nat.lt_of_lt_of_le (Heap.lt_size e) hC))).trans e1⟩
 tups:=u.tups
 frzs:=u.frzs
 tbls:=u.tbls
theorem uO {P:Program}{w:World}{H:Hp}{h h':Heap}{C:Addr} (ok:HOk P w H h) (hs:Heap.SameBut C h h') (hC:H C=none):HOk P w H h':=fun b ob e=>
 (ok b ob e).stay (fun c w' hc q=>(hs.2 c (by
   rintro rfl
   rcases hc with hc | hc
   ·rw [←hc,hC] at e;cases e
   ·rw [hC] at hc;cases hc)).trans q) (fun _ q=>q) fun _ _ q=>q
structure DefC (P:Program) (w:World) (K:PySem.W.Frag) (mg:Str->Option Value) (base:Heap) (k:Nat) (x:Str) (ps:List Str) (sp:Sp):Prop where
 ex:∃ f fd,FnOk P w K mg base (eZ P w) k f fd ps sp∧Binds K fd ps []∧PySem.W.keepIn K (.ref f)=true∧mg x=some (.ref f)
section
variable {P:Program}{w:World}{K:PySem.W.Frag}{mg:Str->Option Value}{base:Heap}{k:Nat}{x:Str}{N ps:List Str}{sp:Sp}{st:Stmt}
theorem BW {f:Addr}{fd:FuncData} (F:Fun K x x st f fd) (S:FnScope N ps (defScope st)) (len:∀ vs H Q E,sp vs H Q E->vs.length=ps.length)
  (hbody:∀ (cdv:Value) (A:Around) (outer:List Env) (s:Shared) (H:Hp) (vs:List V) (Q:VK) (E:XK),Room k (A.deeper (envOfC x (defScope st) s.heap.objs.size f cdv))->sp vs H Q E->
    ∃ t,PSs (fU P w K mg base N x (defScope st) f cdv A outer s H E) (defBody st) t∧t { nx:=fun _ H'=>Q .non H',rt:=Q } (start N vs) H):FnOk P w K mg base (eZ P w) (k + 1) f fd ps sp:=by
 obtain ⟨oc,od,kV,doc,pm,an,cdv,ct,osl,rfl,l,c⟩:=F.ex
 exact fn_of l c S len (hbody cdv)
theorem GQ {f:Addr}{fd:FuncData} (F:Fun K x x st f fd) (S:FnScope N ps (defScope st)) (len:∀ vs H Q E,sp vs H Q E->vs.length=ps.length)
  (hbody:∀ (cdv:Value) (A:Around) (outer:List Env) (s:Shared) (H:Hp) (vs:List V) (Q:VK) (E:XK),Room k (A.deeper (envOfC x (defScope st) s.heap.objs.size f cdv))->sp vs H Q E->
    ∃ t,PSs (fU P w K mg base N x (defScope st) f cdv A outer s H E).nox (defBody st) t∧t { nx:=fun _ H'=>Q .non H',rt:=Q } (start N vs) H):FnOk P w K mg base (eZ P w) (k + 1) f fd ps sp:=by
 refine BW F S len fun cdv A outer s H vs Q E hr h=>?_
 obtain ⟨t,ht,q⟩:=hbody cdv A outer s H vs Q E hr h
 exact ⟨t,ht.nox,q⟩
theorem DefAt.okE (D:DefAt K mg x st) (S:FnScope N ps (defScope st)) (hb:∀ (kV doc pm:Value) (an:Option Addr) (cdv ct:Value) (us:List Value),us.length=ps.length->bindArgs (PySem.W.fnOf x x (defArgs st) (defBody st) (defScope st) .none kV doc pm an cdv ct) ⟨us,[]⟩=pure (ps.zip us))
  (len:∀ vs H Q E,sp vs H Q E->vs.length=ps.length)
  (hbody:∀ (f:Addr) (cdv:Value) (A:Around) (outer:List Env) (s:Shared) (H:Hp) (vs:List V) (Q:VK) (E:XK),Room k (A.deeper (envOfC x (defScope st) s.heap.objs.size f cdv))->sp vs H Q E->
    ∃ t,PSs (fU P w K mg base N x (defScope st) f cdv A outer s H E) (defBody st) t∧t { nx:=fun _ H'=>Q .non H',rt:=Q } (start N vs) H):DefC P w K mg base (k + 1) x ps sp:=by
 obtain ⟨f,fd,F,m⟩:=D.ex
 exact ⟨f,fd,BW F S len (hbody f),F.binds hb,F.kp,m⟩
theorem DefAt.okN (D:DefAt K mg x st) (S:FnScope N ps (defScope st)) (hb:∀ (kV doc pm:Value) (an:Option Addr) (cdv ct:Value) (us:List Value),us.length=ps.length->bindArgs (PySem.W.fnOf x x (defArgs st) (defBody st) (defScope st) .none kV doc pm an cdv ct) ⟨us,[]⟩=pure (ps.zip us))
  (len:∀ vs H Q E,sp vs H Q E->vs.length=ps.length)
  (hbody:∀ (f:Addr) (cdv:Value) (A:Around) (outer:List Env) (s:Shared) (H:Hp) (vs:List V) (Q:VK) (E:XK),Room k (A.deeper (envOfC x (defScope st) s.heap.objs.size f cdv))->sp vs H Q E->
    ∃ t,PSs (fU P w K mg base N x (defScope st) f cdv A outer s H E).nox (defBody st) t∧t { nx:=fun _ H'=>Q .non H',rt:=Q } (start N vs) H):DefC P w K mg base (k + 1) x ps sp:=by
 obtain ⟨f,fd,F,m⟩:=D.ex
 exact ⟨f,fd,GQ F S len (hbody f),F.binds hb,F.kp,m⟩
end
theorem jF {P:Program}{w:World}{X:Cx}:Passes (eZ P w) X E0:=fun _ _ _ _ _ _ _ h=>by
 obtain ⟨_,_,_,_,_,_,_,_,_,_,_,_,_,q⟩:=h
 exact q.elim
section
variable {X:Cx}{j k:Nat}{ps:List Str}{sp:Sp}{x:Str}{p pos:Pos}{e:Expr}{es:List Expr}{t:TA}{E:XK}
theorem yS (D:DefC X.prog X.w X.K X.mg X.base j x ps sp) (hr:Room k X.A) (hx:Passes (eZ X.prog X.w) X E) (ha:PA X (e::es) t) (hjk:j≤k:=by decide) (hg:Gl X x:=by rfl) (hdb:(x == ("__debug__":Str))=false:=by decide)
  (he:starEach (e::es) X.env=(false,eval e X.env)::starEach es X.env:=by rfl) (hpl:(backTo pos (starEach es X.env)).any (·.1)=false:=by rfl) :
  PE X (.Call (.Name x p) (e::es) [] pos) (tCall sp [] E t):=by
 obtain ⟨f,fd,F,b,kp,m⟩:=D.ex
 exact pe_call F (hr.mono hjk) hg m kp b .nil hx ha hdb he hpl
end
theorem kV_is {P:Program}{w:World}{k:Key}{u:Value} (r:RelV (kV k) u):(mixKind P w).is k u=true:=by
 cases k with
 | inl i=>obtain ⟨t,e⟩:=(show ∃ t,u=Value.int i t from r);subst e;exact mixKind_int P w i t
 | inr x=>obtain ⟨t,e⟩:=(show ∃ t,u=Value.str x t from r);subst e;exact mixKind_str P w x t
theorem items_are {P:Program}{w:World}:∀ {ks:List Key}{us:List Value},Vals (ks.map kV) us->ItemsAre (mixKind P w) ks us
 | [],_,r=>by rw [List.map_nil] at r;cases r;exact .nil
 | k::ks,_,r=>by
   rw [List.map_cons] at r
   cases r with
   | cons h t=>exact .cons (kV_is h) (items_are t)
abbrev KT (H:Hp):List (List Key×V)->List (List Key×Addr×Value)->Prop:=Paired fun p q=>p.1=q.1∧H q.2.1=some (.tup (p.1.map kV))∧RelV p.2 q.2.2
section
variable {P:Program}{w:World}{H:Hp}{h:Heap}{a:Addr}
theorem rd_of {u:HO} (ok:HOk P w H h) (e:Rd H a u):ObjOk P w H h a u:=e.ok ok
theorem key_of {ks:List Key} (ok:HOk P w H h) (e:H a=some (.tup (ks.map kV))):(tupleKind (mixKind P w)).is h ks a:=by
 obtain ⟨_,its,r,o,h1,h2,n,h3⟩:=(show ObjOk P w H h a (.tup (ks.map kV)) from ok a _ e)
 exact ⟨o,its.toArray,n,h1,h2,h3,by simpa using items_are r⟩
theorem dt_rd {kvs:List (List Key×V)} (ok:HOk P w H h) (e:Rd H a (.dT kvs)):kvs.length≤sizeLine∧(a == sysModules)=false ∧
  ∃ xs,KT H kvs xs∧h.DictOfH (tupleKind (mixKind P w)) a xs:=by
 obtain ⟨z,y,xs,r,o,es,ep,h1,h2,h3,h4,h5⟩:=(show ObjOk P w H h a (.dT kvs) from rd_of ok e)
 refine ⟨z,y,xs,r,o,es,ep,h1,h2,h3,h4,fun x hx=>?_,h5⟩
 have all:∀ {l:List (List Key×V)}{m:List (List Key×Addr×Value)},KT H l m->∀ x∈m,(tupleKind (mixKind P w)).is h x.1 x.2.1:=by
  intro l m q
  induction q with
  | nil=>intro x hx;exact nomatch hx
  | @cons p q ps qs hq t ih=>
    intro x hx
    rcases List.mem_cons.mp hx with e | hx
    ·subst e
     exact key_of ok (by rw [←hq.1];exact hq.2.1)
    ·exact ih x hx
 exact all r x hx
theorem dt_of {kvs:List (List Key×V)} (ok:HOk P w H h) (e:H a=some (.dT kvs)):kvs.length≤sizeLine∧(a == sysModules)=false ∧
  ∃ xs,KT H kvs xs∧h.DictOfH (tupleKind (mixKind P w)) a xs:=dt_rd ok (.inl e)
end
end L2
namespace HT
open PySem PySem.Spec PyProof.Rows PySem.W
section
variable {prog:Program}{w:World}{A:Around}{E:Value->Shared->Prop}{s:Shared}
theorem yu {t b:Addr}{vs ws:List Value}{Q:Value->Shared->Prop} (ht:IsTup s.heap t vs.toArray) (hb:IsTup s.heap b ws.toArray) (hv:vs=[])
  (h1:Q (.ref b) s):wpAny (model prog w) A (binaryOp .Add (.ref t) (.ref b)) Q E s:=by
 obtain ⟨⟨cls,dd,data,sl⟩,ho,hc,n,hd⟩:=id ht
 obtain ⟨⟨cls2,dd2,data2,sl2⟩,ho2,hc2,n2,hd2⟩:=id hb
 simp only at hc hd hc2 hd2
 subst hc hd hc2 hd2
 exact concat_meets ⟨_,ho,rfl⟩ ⟨_,ho2,rfl⟩ noFill_tuple_add seq_tuple_add PySem.F.slot_tuple_add PySem.F.entry_tuple_add (PySem.F.args_tuple_add_2 _ _)
   (tuple_addW0 t b vs.toArray ws.toArray n n2 dd dd2 sl sl2 (by simp [hv])) ⟨ho,ho2,h1⟩
end
end HT
namespace L2
open PySem PySem.Spec PyProof.Rows
section
variable {X:Cx}
def Eg:R2:=fun x y H Q=>∃ a b xs ys,x=.ref a∧y=.ref b∧H a=some (.tup xs)∧H b=some (.tup ys)∧xs.length + ys.length≤sizeLine∧∀ p H',Same H H'->H' p=some (.tup (xs++ys))->Q (.ref p) H'
theorem Ai:OpR X (binaryOp .Add) Eg:=by
 intro pins s σ H x y v u Q I rx ry h
 obtain ⟨a,b,xs,ys,rfl,rfl,ha,hb,hz,q⟩:=h
 by_cases hx:xs=[]
 ·cases rx
  cases ry
  obtain ⟨its,r1,p1,_⟩:=I.tuple (SqT.of ha)
  obtain ⟨its2,r2,p2,_⟩:=I.tuple (SqT.of hb)
  exact HT.yu p1 p2 (r1.nil_iff.mpr hx) ⟨.ref b,H,I,rfl,q b H (Same.refl _) (by rw [hx,List.nil_append];exact hb)⟩
 ·exact op_catT (X:=X) pins s σ H _ _ v u Q I rx ry ⟨a,b,xs,ys,rfl,rfl,SqT.of ha,SqT.of hb,hx,hz,fun e=>q a H (Same.refl _) (by rw [e,List.append_nil];exact ha),fun _ p hp=>q p _ (same_new hp _) upd_same⟩
end
mutual
inductive RepF (H:Hp):Bool->V->PyData->Prop
 | non {f:Bool}:RepF H f .non .none
 | bl {f:Bool} (b:Bool):RepF H f (.bl b) (.bool b)
 | int {f:Bool} (i:Int):RepF H f (.int i) (.int i)
 | str {f:Bool} (x:Str):RepF H f (.str x) (.str x)
 | lst {a:Addr}{xs:List V}{ds:List PyData}:H a=some (.lst xs)->RepsF H true xs ds->RepF H true (.ref a) (.list ds)
 | tup {f:Bool}{a:Addr}{xs:List V}{ds:List PyData}:H a=some (.tup xs)->RepsF H f xs ds->RepF H f (.ref a) (.tuple ds)
 | d0 {a:Addr}:H a=some (.dK [])->RepF H false (.ref a) (.dict [])
 | d1 {a:Addr}{i j:Int}:H a=some (.dK [(.inl i,.int j)])->RepF H false (.ref a) (.dict [(.int i,.int j)])
inductive RepsF (H:Hp):Bool->List V->List PyData->Prop
 | nil {f:Bool}:RepsF H f [] []
 | cons {f:Bool}{v:V}{d:PyData}{vs:List V}{ds:List PyData}:RepF H f v d->RepsF H f vs ds->RepsF H f (v::vs) (d::ds)
end
mutual
/-- the same,away from a -/
theorem RepF.toRep {K:PySem.W.Frag}{H:Hp}:∀ {v:V}{d:PyData},RepF H true v d->Rep K H v d
 | _,_,.non=>.non
 | _,_,.bl b=>.bl b
 | _,_,.int i=>.int i
 | _,_,.str x=>.str x
 | _,_,.lst h hs=>.lst (SqL.of h) (RepsF.toReps hs)
 | _,_,.tup h hs=>.tup (SqT.of h) (RepsF.toReps hs)
theorem RepsF.toReps {K:PySem.W.Frag}{H:Hp}:∀ {vs:List V}{ds:List PyData},RepsF H true vs ds->Reps K H vs ds
 | _,_,.nil=>.nil
 | _,_,.cons h hs=>.cons (RepF.toRep h) (RepsF.toReps hs)
end
theorem Gb {X:Cx}{x:Str}{T:String}{r:List V->Hp->VK->Prop}{p pos:Pos}{e:Expr}{es:List Expr}{t:TA} (hc:CallR X (.type T) r) (hm:X.mg x=none) (ha:PA X (e::es) t) (hg:Gl X x:=by rfl) (hv:bootBuiltins x=some (.type T):=by decide +kernel) (hn:x≠"__name__":=by decide) (hdb:(x == ("__debug__":Str))=false:=by decide)
  (he:starEach (e::es) X.env=(false,eval e X.env)::starEach es X.env:=by rfl) (hpl:(backTo pos (starEach es X.env)).any (·.1)=false:=by rfl) :
  PE X (.Call (.Name x p) (e::es) [] pos) (tCB r t):=pe_callTy hc hg hm hv ha hn hdb he hpl
def notStar:Expr->Bool
 | .Starred _ _=>false
 | _=>true
theorem bF {e:Expr}{es:List Expr}{env:Env} (h:notStar e=true):starEach (e::es) env=(false,eval e env)::starEach es env:=by
 cases e<;>first | rfl | cases h
theorem FZ {X:Cx}{e:Expr}{es:List Expr}{te:TE}{t:TA} (ha:PE X e te) (hr:PA X es t) (hs:notStar e=true:=by rfl):PA X (e::es) (tCons te t):=pa_cons ha hr (bF hs)
structure QI (X:Cx) (tg l:Expr) (wi:TI):Prop where
 h:PI X tg l wi
structure QA (X:Cx) (es:List Expr) (t:TA):Prop where
 h:PA X es t
theorem Dc {X:Cx}:QA X [] tNil:=⟨pa_nil⟩
theorem Gd {X:Cx}{e:Expr}{es:List Expr}{te:TE}{t:TA} (ha:PE X e te) (hr:QA X es t) (hs:notStar e=true:=by rfl):QA X (e::es) (tCons te t):=⟨FZ ha hr.h hs⟩
section
variable {X:Cx}{j k:Nat}{ps:List Str}{sp:Sp}{x:Str}{p pos:Pos}{e:Expr}{es:List Expr}{t:TA}{E:XK}
theorem Al {x1} (h:QA X es t):PE X (.Tuple es x1 pos) (tTup t):=pe_tup h.h
theorem uY (h:QA X es t):PE X (.List es pos) (tLst t):=pe_lst h.h
theorem xu (D:DefC X.prog X.w X.K X.mg X.base j x ps sp) (hr:Room k X.A) (hx:Passes (eZ X.prog X.w) X E) (ha:QA X (e::es) t) (hjk:j≤k:=by decide) (hg:Gl X x:=by rfl) (hdb:(x == ("__debug__":Str))=false:=by decide)
  (he:notStar e=true:=by rfl) (hpl:(backTo pos (starEach es X.env)).any (·.1)=false:=by rfl) :
  PE X (.Call (.Name x p) (e::es) [] pos) (tCall sp [] E t):=yS D hr hx ha.h hjk hg hdb (bF he) hpl
theorem Eb {id:String}{r:List V->Hp->VK->Prop} (hc:CallR X (.builtin id) r) (hm:X.mg x=none) (ha:QA X (e::es) t) (hg:Gl X x:=by rfl) (hv:bootBuiltins x=some (.builtin id):=by decide +kernel) (hn:x≠"__name__":=by decide) (hdb:(x == ("__debug__":Str))=false:=by decide)
  (he:notStar e=true:=by rfl) (hpl:(backTo pos (starEach es X.env)).any (·.1)=false:=by rfl) :
  PE X (.Call (.Name x p) (e::es) [] pos) (tCB r t):=Ga hc hm ha.h hg hv hn hdb (bF he) hpl
theorem Ed {T:String}{r:List V->Hp->VK->Prop} (hc:CallR X (.type T) r) (hm:X.mg x=none) (ha:QA X (e::es) t) (hg:Gl X x:=by rfl) (hv:bootBuiltins x=some (.type T):=by decide +kernel) (hn:x≠"__name__":=by decide) (hdb:(x == ("__debug__":Str))=false:=by decide)
  (he:notStar e=true:=by rfl) (hpl:(backTo pos (starEach es X.env)).any (·.1)=false:=by rfl) :
  PE X (.Call (.Name x p) (e::es) [] pos) (tCB r t):=Gb hc hm ha.h hg hv hn hdb (bF he) hpl
theorem CZ {T name id:String}{r:V->List V->Hp->VK->Prop}{o:Expr}{to:TE}{apos cpos:Pos} (pa:PlainAttrs T) (slot:Slot T name id) (hty:typeOf (.builtin id)=pure (.type "method_descriptor")) (hm:MtR X id r) (ho:PE X o to) (ha:QA X (e::es) t)
  (hbase:attributeBase o name X.env (eval o X.env)=eval o X.env:=by rfl)
  (hfew:((backTo cpos (starEach (e::es) X.env)).all (fun x=>!x.1) && (backToKw cpos (keywordEach [] X.env)).all (fun x=>x.1.isSome)
    && decide ((e::es).length + ([]:List Keyword).length + (if ([]:List Keyword).isEmpty then 0 else 1)<30))=true:=by rfl)
  (hline:(apos.endLine == cpos.line)=true:=by rfl) (hs:notStar e=true:=by rfl) (hplain:(backTo cpos (starEach es X.env)).any (·.1)=false:=by rfl) :
  PE X (.Call (.Attribute o name apos) (e::es) [] cpos) (tBM X.K T r to t):=pe_bm pa slot hty hm ho ha.h hbase hfew hline (bF hs) hplain
theorem vM {tg a:Expr}{ta:TA} (hg:Gl X "range") (hm:X.mg "range"=none) (ha:QA X [a] ta) (hs:notStar a=true:=by rfl):QI X tg (.Call (.Name "range" p) [a] [] pos) (iRng1 ta):=⟨pi_range1 hg hm ha.h (bF hs)⟩
theorem vN {tg a b:Expr}{ta:TA} (hg:Gl X "range") (hm:X.mg "range"=none) (ha:QA X [a,b] ta) (hs:notStar a=true:=by rfl) (hs2:notStar b=true:=by rfl):QI X tg (.Call (.Name "range" p) [a,b] [] pos) (iRng2 ta):=
 ⟨pi_range2 hg hm ha.h ((bF hs).trans (by rw [bF hs2];rfl)) (bF hs2)⟩
end
def sE {α:Type} (P:α->Prop):List α->Prop
 | []=>True
 | a::l=>P a∧sE P l
theorem jV {α:Type}{P:α->Prop}:∀ {l:List α},sE P l->∀ a∈l,P a
 | [],_,_,h=>nomatch h
 | b::l,h,a,hm=>by
   rcases List.mem_cons.mp hm with rfl | hm
   ·exact h.1
   ·exact jV h.2 a hm
theorem mem_of_lookup {β:Type}{y:Str}{c:β}:∀ {l:List (Str×β)},l.lookup y=some c->(y,c)∈l
 | [],h=>by cases h
 | (z,d)::l,h=>by
   rw [List.lookup_cons] at h
   split at h
   ·rename_i e
    have e':y=z:=by simpa using e
    cases h
    rw [e'];exact List.mem_cons_self ..
   ·exact List.mem_cons_of_mem _ (mem_of_lookup h)
theorem bf {cl cells:List (Str×Addr)} (h:sE (fun p=>cells.lookup p.1=some p.2) cl):∀ y c,cl.lookup y=some c->cells.lookup y=some c:=fun y c e=>jV h (y,c) (mem_of_lookup e)
def yL:NameKind->Bool
 | .cell | .free=>true
 | _=>false
theorem aZ {names:List (Str×NameKind)}{cl:List (Str×Addr)} (h:(names.all fun p=>!yL p.2 || (cl.lookup p.1).isSome)=true):∀ y,(names.lookup y=some .cell∨names.lookup y=some .free)->∃ c,cl.lookup y=some c:=fun y e=>by
 have hh:=List.all_eq_true.mp h
 rcases e with e | e
 ·have:=hh _ (mem_of_lookup e)
  simp only [yL,Bool.not_true,Bool.false_or] at this
  exact Option.isSome_iff_exists.mp this
 ·have:=hh _ (mem_of_lookup e)
  simp only [yL,Bool.not_true,Bool.false_or] at this
  exact Option.isSome_iff_exists.mp this
theorem aY {js:List Nat}{fr:List Str}{P:Nat->Str->Prop} (h:sE (fun p:Nat×Str=>P p.1 p.2) (js.zip fr)):∀ (k j:Nat) (y:Str),js[k]?=some j->fr[k]?=some y->P j y:=fun k j y h1 h2=>by
 refine jV h (j,y) (List.mem_iff_getElem?.mpr ⟨k,?_⟩)
 rw [List.getElem?_zip_eq_some]
 exact ⟨h1,h2⟩
section
variable {X:Cx}
def lz:V->Bool
 | .bl b=>b
 | .int i=>i != 0
 | _=>false
def scS:V->Bool
 | .bl _=>true
 | .int _=>true
 | _=>false
theorem xV {prog:Program}{w:World}{A:Around}{E:Value->Shared->Prop}{s:Shared}{v:V}{u:Value}{Q:Bool->Shared->Prop} (h:scS v=true) (r:RelV v u) (q:Q (lz v) s):wpAny (model prog w) A (truthy u) Q E s:=by
 cases v with
 | bl b=>cases r;exact wpAny_truthy_bool q
 | int i=>obtain ⟨t,rfl⟩:=r;exact PyProof.Rows.truthy_int q
 | _=>cases h
theorem range_all {xs:List V}{tr:Nat->Bool} (h:∀ (i:Nat) (x:V),xs[i]?=some x->tr i=lz x):(List.range xs.length).all tr=xs.all lz:=by
 rw [Bool.eq_iff_iff,List.all_eq_true,List.all_eq_true]
 constructor
 ·intro q x hx
  obtain ⟨i,hi,e⟩:=List.mem_iff_getElem.mp hx
  have:=q i (List.mem_range.mpr hi)
  rw [h i x (by rw [List.getElem?_eq_getElem hi,e])] at this
  exact this
 ·intro q i hi
  have hi':=List.mem_range.mp hi
  rw [h i xs[i] (List.getElem?_eq_getElem hi')]
  exact q _ (List.getElem_mem hi')
theorem Ez {prog:Program}{w:World}{A:Around}{xs:List V}{its:List Value} (rv:Vals xs its) (hs:∀ x∈xs,scS x=true):TruthOf prog w A (fun i v=>its.toArray[i]?=some v) (fun i=>lz (xs[i]?.getD .non)):=by
 intro i v s Q E hP hQ
 have e:its[i]?=some v:=by simpa using hP
 have hl:=rv.length
 have hi:i<xs.length:=by rw [hl];exact (List.getElem?_eq_some_iff.mp e).1
 obtain ⟨u,e2,r⟩:=rv.get (List.getElem?_eq_getElem hi)
 rw [e] at e2
 cases e2
 refine xV (hs _ (List.getElem_mem hi)) r ?_
 have hQ':Q (lz (xs[i]?.getD V.non)) s:=hQ
 rw [List.getElem?_eq_getElem hi] at hQ'
 exact hQ'
theorem yr (hh:X.A.handled=none):CallR X (.builtin "all") (fun vs H Q=>∃ l xs,vs=[.ref l]∧H l=some (.lst xs)∧(∀ x∈xs,scS x=true)∧Q (.bl (xs.all lz)) H):=by
 intro pins s σ H vs us Q I r h
 obtain ⟨l,xs,rfl,hH,hs,q⟩:=h
 obtain ⟨u,rfl,ru⟩:=vals1 r
 cases ru
 obtain ⟨its,rv,p,hz⟩:=I.list (SqL.of (K:=X.K) hH)
 have hl:l<s.heap.objs.size:=by obtain ⟨o,n,e,_⟩:=p;exact Heap.lt_size e
 refine call_all_walk (wpAny_pyIter_list p.isList ?_)
 refine ⟨s.heap.objs.size,[s.heap.objs.size,l],[s.heap.objs.size],its.toArray.size,fun i v=>its.toArray[i]?=some v,fun i h=>h.IsListIter s.heap.objs.size l i∧h.IsList l its.toArray,fun i=>lz (xs[i]?.getD .non),rfl,Walks.list (A:=X.A.in1) hh s.heap.objs.size l (Nat.ne_of_lt hl) its.toArray,⟨⟨_,Heap.get?_push_size _ rfl,rfl,rfl⟩,p.isList.at fun o e=>Heap.get?_push_of_some _ e⟩,Ez rv hs,fun h' tk hk=>?_⟩
 refine ⟨.bl (xs.all lz),H,I.kept fun b o e=>hk b o (fun z=>?_) (Heap.get?_push_of_some _ e),?_,q⟩
 ·have:b=s.heap.objs.size:=by simpa using z
  exact absurd (Heap.lt_size e) (by rw [this];exact Nat.lt_irrefl _)
 ·rw [show its.toArray.size=xs.length by rw [List.size_toArray];exact rv.length.symm]
  show Value.bool _=Value.bool _
  rw [range_all fun i x e=>by rw [e];rfl]
theorem Ak:OpR X (compareOp .IsNot) (fun x y H Q=>∃ b c,x=.bl b∧y=.bl c∧Q (.bl (!(b == c))) H):=by
 intro pins s σ H x y v u Q I rx ry h
 obtain ⟨b,c,rfl,rfl,q⟩:=h
 cases rx
 cases ry
 exact isnot_bool ⟨.bl _,H,I,rfl,q⟩
def eqB (b:Bool):Value->Bool
 | .bool c=>c == b
 | _=>false
theorem Ec {x:Str}{i:Int}{t:Tok}{pos:Pos} (h:X.mg x=some (.int i t)) (hg:Gl X x:=by rfl) (hd:(x == ("__debug__":Str))=false:=by decide):PE X (.Name x pos) (tC (.int i)):=pe_glob hg h ⟨t,rfl⟩ hd
end
structure MethAt (K:PySem.W.Frag) (C:Addr) (x qual:Str) (st:Stmt):Prop where
 ex:∃ f fd,Fun K x qual st f fd∧PySem.W.findIn K (.ref C) x=some (some (.ref f))∧PySem.W.isFn K (.ref f)=true
structure MethC (P:Program) (w:World) (K:PySem.W.Frag) (mg:Str->Option Value) (base:Heap) (k:Nat) (C:Addr) (x:Str) (ps:List Str) (sp:Sp):Prop where
 ex:∃ f fd,FnOk P w K mg base (eZ P w) k f fd ps sp∧Binds K fd ps []∧PySem.W.keepIn K (.ref f)=true∧PySem.W.findIn K (.ref C) x=some (some (.ref f))∧PySem.W.isFn K (.ref f)=true
theorem xf {K:PySem.W.Frag}{C:Addr}{x qual:Str}{st:Stmt}{f:Addr}{oc:Value}{od an:Option Addr}{osl:Array (Option Value)}{kV doc pm cdv ct:Value}
  (a:PySem.W.findIn K (.ref C) x=some (some (.ref f))) (n:PySem.W.isFn K (.ref f)=true) (l:K.lookup f=some ⟨oc,od,.func (PySem.W.fnOf x qual (defArgs st) (defBody st) (defScope st) .none kV doc pm an cdv ct),osl⟩) (c:PySem.W.codeIn K cdv qual=true) (k:PySem.W.keepIn K (.ref f)=true):MethAt K C x qual st:=
 ⟨f,_,fun_mk l c k,a,n⟩
section
variable {P:Program}{w:World}{K:PySem.W.Frag}{mg:Str->Option Value}{base:Heap}{k:Nat}{C:Addr}{x qual:Str}{N ps:List Str}{sp:Sp}{st:Stmt}
theorem FJ {f:Addr}{fd:FuncData} (F:Fun K x qual st f fd) (S:FnScope N ps (defScope st)) (len:∀ vs H Q E,sp vs H Q E->vs.length=ps.length)
  (hbody:∀ (cdv:Value) (A:Around) (outer:List Env) (s:Shared) (H:Hp) (vs:List V) (Q:VK) (E:XK),Room k (A.deeper (envOfC qual (defScope st) s.heap.objs.size f cdv))->sp vs H Q E->
    ∃ t,PSs (fU P w K mg base N qual (defScope st) f cdv A outer s H E) (defBody st) t∧t { nx:=fun _ H'=>Q .non H',rt:=Q } (start N vs) H):FnOk P w K mg base (eZ P w) (k + 1) f fd ps sp:=by
 obtain ⟨oc,od,kV,doc,pm,an,cdv,ct,osl,rfl,l,c⟩:=F.ex
 exact fn_of l c S len (hbody cdv)
end
section
variable {X:Cx}{j k:Nat}{C:Addr}{ps:List Str}{sp:Sp}{x:Str}{p pos:Pos}{e:Expr}{es:List Expr}{t:TA}{E:XK}
theorem yU (D:MethC X.prog X.w X.K X.mg X.base j C "__init__" ps sp) (mk:PySem.W.makesIn X.K C=true) (kc:PySem.W.keepIn X.K (.ref C)=true) (hm:X.mg x=some (.ref C)) (hr:Room k X.A) (hx:Passes (eZ X.prog X.w) X E) (ha:QA X (e::es) t) (hjk:j + 1≤k:=by decide) (hg:Gl X x:=by rfl) (hdb:(x == ("__debug__":Str))=false:=by decide)
  (he:notStar e=true:=by rfl) (hpl:(backTo pos (starEach es X.env)).any (·.1)=false:=by rfl) :
  PE X (.Call (.Name x p) (e::es) [] pos) (tMake C sp [] E t):=by
 obtain ⟨f,fd,F,b,kp,a,n⟩:=D.ex
 exact pe_make ⟨mk,a,n,kc⟩ F (hr.mono hjk) hg hm b .nil hx ha.h hdb (bF he) hpl
end
open PySem PySem.Spec PyProof.Rows
theorem b8:∀ (names:List (Str×NameKind)) (n:Nat) (acc:List (Str×Addr)),cellsFrom n names acc=cellsFrom n names []++acc
 | [],_,_=>rfl
 | (name,kind)::r,n,acc=>by
   unfold cellsFrom
   split
   ·rw [b8 r (n + 1) ((name,n)::acc),b8 r (n + 1) [(name,n)],List.append_assoc];rfl
   ·exact b8 r n acc
theorem qQ {M:Model}{A:Around}{E:Value->Shared->Prop}{s:Shared}{scope:Scope}{globals:Addr}{cl:List (Str×Addr)}{qual:Str}{env:Env}{Q:Env->Shared->Prop}
  (hQ:Q (newEnv scope s.heap.objs.size globals (cellsFrom (s.heap.objs.size + 1) scope.names cl) qual none .none (some env) builtinsNs) { s with heap:=pushCells (s.heap.push { cls:=.type "dict",data:=.dict #[] }) scope.names }) :
  wpAny M A (newFunctionEnv scope globals cl [] qual none .none (some env)) Q E s:=by
 simp only [newFunctionEnv,Option.isSome_some,if_true]
 refine wpAny_bind (wpAny_alloc ?_)
 refine wpAny_bind (wpAny_layCells _ (fun name kind cells=>by cases hkc:kind == NameKind.cell<;>simp [hkc]) _ _ _ _ ?_)
 rw [show ({ s with heap:=s.heap.push { cls:=.type "dict",data:=.dict #[] } }:Shared).heap.objs.size=s.heap.objs.size + 1 from Heap.size_push ..]
 refine wpAny_bind ?_
 rw [List.forIn_nil]
 exact wpAny_pure (wpAny_pure hQ)
abbrev Cx.bj (X:Cx) (pins:List (Addr×Obj)) (scope:Scope) (cs:List (Str×Addr)) (Nc:List Str) (fp:List Addr) (C:Addr) (s₂:Shared) (H₂:Hp):Cx where
 prog:=X.prog
 w:=X.w
 K:=X.K
 mg:=X.mg
 base:=X.base
 A:=X.A
 N:=Nc
 s₀:=s₂
 H₀:=H₂
 env:=compEnvC scope cs C X.env
 outer:=X.stack
 stack:=X.stack
 ex:=fp
 fn:=fun y=>scope.names.lookup y == some .cell
 calm:=X.calm
 pn:=X.pn++pins
 xe:=fun _ _=>False
structure CompG (X:Cx) (scope:Scope) (cl:List (Str×Addr)) (own:List Str) (js:List Nat) (fr:List Str):Prop where
 kind:scope.kind=.function
 names:∀ y∈scope.names,y.2=.local->scope.names.lookup y.1=some .local
 clos:closureFor scope X.env=pure cl
 sub:∀ y c,cl.lookup y=some c->X.env.cells.lookup y=some c
 has:∀ (m:Nat) y,((relabel scope X.env).names.lookup y=some .cell∨(relabel scope X.env).names.lookup y=some .free)->∃ c,(cellsFrom m scope.names cl).lookup y=some c
 nd:(own++fr).Nodup
 len:js.length=fr.length
 newc:∀ (m:Nat) y c,(cellsFrom m scope.names []).lookup y=some c->scope.names.lookup y=some .cell
 oldc:∀ y c,cl.lookup y=some c->scope.names.lookup y≠some .cell
 fre:∀ (k j:Nat) (y:Str),js[k]?=some j->fr[k]?=some y->X.N[j]?=some y∧(X.env.scope.names.lookup y=some .cell∨X.env.scope.names.lookup y=some .free)∧((relabel scope X.env).names.lookup y=some .cell∨(relabel scope X.env).names.lookup y=some .free)∧∃ c,cl.lookup y=some c
theorem kI {α:Type}{y:Str}{c:α}:∀ {l m:List (Str×α)},(l++m).lookup y=some c->l.lookup y=some c∨(l.lookup y=none∧m.lookup y=some c)
 | [],_,h=>.inr ⟨rfl,h⟩
 | (k,v)::r,m,h=>by
   rw [List.cons_append,List.lookup_cons] at h
   rw [List.lookup_cons]
   split at h
   ·exact .inl h
   ·exact kI h
theorem iY {α:Type}{y:Str}:∀ {l m:List (Str×α)},l.lookup y=none->(l++m).lookup y=m.lookup y
 | [],_,_=>rfl
 | (k,v)::r,m,h=>by
   rw [List.lookup_cons] at h
   rw [List.cons_append,List.lookup_cons]
   split at h
   ·cases h
   ·exact iY h
section
variable {X:Cx}{pins:List (Addr×Obj)}{σ:St}{H:Hp}{s:Shared}{scope:Scope}{cl:List (Str×Addr)}{own:List Str}{js:List Nat}{fr:List Str}{fp:List Addr}{C m:Addr}
theorem yx {hh:Heap} (T:CompG X scope cl own js fr) (I:Inv X pins σ H s) (f:∀ b∈fp,FpOk X pins H b) (hlt:∀ b∈fp,b<s.heap.objs.size) (hC:s.heap.objs.size≤C) (hm:m=hh.objs.size) (hms:s.heap.objs.size≤m) :
  (X.bj pins scope (cellsFrom m scope.names cl) (own++fr) fp C s H).Ok:=by
 have ok:CellsOk (pushCells hh scope.names) m (cellsFrom m scope.names []):=by
  have:=cellsFrom_ok scope.names hh m [] ⟨fun _ _ hm=>(nomatch hm),List.Pairwise.nil⟩ (by rw [hm];exact Nat.le_refl _)
  rw [←hm] at this;exact this
 have hold:∀ y c,cl.lookup y=some c->c<s.heap.objs.size:=fun y c e=>by
  obtain ⟨v,q⟩:=I.cell y c (T.sub _ _ e)
  exact q.lt
 have spl:∀ y c,(cellsFrom m scope.names cl).lookup y=some c->(m≤c∧(cellsFrom m scope.names []).lookup y=some c)∨(cl.lookup y=some c∧c<s.heap.objs.size):=fun y c e=>by
  rw [b8] at e
  rcases kI e with z | ⟨_,z⟩
  ·exact .inl ⟨(ok.empty _ _ (PySem.mem_of_lookup z)).2,z⟩
  ·exact .inr ⟨z,hold _ _ z⟩
 refine ⟨I.ok.mod,T.kind,I.ok.glob,I.ok.blt,hC,fun y z c h1 h2=>?_,fun y h=>T.has m y h,fun y c h1 h2=>?_,I.ok.hd,I.ok.frames,.inl rfl,fun b hb=>⟨Nat.ne_of_lt (Nat.lt_of_lt_of_le (hlt b hb) hC),fun y c h=>?_⟩,fun b o e=>I.bs b o e,Nat.le_trans I.ok.bsz I.sz,fun b o e hb=>?_,fun b hb hm'=>?_,I.stack,I.stkFree⟩
 ·rcases spl _ _ h1 with ⟨a1,a2⟩ | ⟨a1,a2⟩
  ·rcases spl _ _ h2 with ⟨b1,b2⟩ | ⟨b1,b2⟩
   ·exact name_of_addr ok.apart (PySem.mem_of_lookup a2) (PySem.mem_of_lookup b2)
   ·exact absurd (Nat.lt_of_lt_of_le b2 hms) (Nat.not_lt.mpr a1)
  ·rcases spl _ _ h2 with ⟨b1,b2⟩ | ⟨b1,b2⟩
   ·exact absurd (Nat.lt_of_lt_of_le a2 hms) (Nat.not_lt.mpr b1)
   ·exact I.ok.inj y z c (T.sub _ _ a1) (T.sub _ _ b1)
 ·rcases spl _ _ h2 with ⟨a1,a2⟩ | ⟨a1,a2⟩
  ·exact Nat.le_trans hms a1
  ·exact absurd (by simpa using h1) (T.oldc _ _ a1)
 ·rcases spl _ _ h with ⟨a1,a2⟩ | ⟨a1,a2⟩
  ·exact fun z=>absurd (Nat.lt_of_lt_of_le (hlt b hb) hms) (Nat.not_lt.mpr (z ▸ a1))
  ·exact (f b hb).2.2.2.2.1 y c (T.sub _ _ a1)
 ·rcases (f b hb).2.2.2.1 with z | z
  ·exact I.ok.noex b o e z
  ·exact absurd (Nat.lt_of_lt_of_le (Heap.lt_size e) I.ok.bsz) (Nat.not_lt.mpr z)
 ·rcases List.mem_cons.mp (I.stkSub b hm') with z | z
  ·exact (f b hb).2.1 z
  ·exact (f b hb).2.2.1 z
theorem qI {hh h':Heap}{t':Nat}{acc:Addr}{mm:Str->Option Value} (T:CompG X scope cl own js fr) (I:Inv X pins σ H s) (f:∀ b∈fp,FpOk X pins H b) (hlt:∀ b∈fp,b<s.heap.objs.size)
  (k:∀ b o,s.heap.get? b=some o->h'.get? b=some o) (ha:s.heap.objs.size≤acc) (hC:s.heap.objs.size≤C) (hne:C≠acc) (hm:m=hh.objs.size) (hms:s.heap.objs.size≤m) (hCm:C<m) (ham:acc<m) (hh':h'=pushCells hh scope.names)
  (new:∃ n,h'.get? acc=some { cls:=.type "list",data:=.seq #[] n }) (ns:h'.Ns C mm) :
  Inv (X.bj pins scope (cellsFrom m scope.names cl) (own++fr) fp C s H) [] (List.replicate own.length none++pick js σ) (upd H acc (.lst [])) { s with heap:=h',toks:=t' }:=by
 have ok:CellsOk (pushCells hh scope.names) m (cellsFrom m scope.names []):=by
  have:=cellsFrom_ok scope.names hh m [] ⟨fun _ _ hm=>(nomatch hm),List.Pairwise.nil⟩ (by rw [hm];exact Nat.le_refl _)
  rw [←hm] at this;exact this
 have hold:∀ y c,cl.lookup y=some c->c<s.heap.objs.size:=fun y c e=>by
  obtain ⟨v,q⟩:=I.cell y c (T.sub _ _ e)
  exact q.lt
 have spl:∀ y c,(cellsFrom m scope.names cl).lookup y=some c->(m≤c∧h'.IsCell c none)∨(cl.lookup y=some c∧c<s.heap.objs.size):=fun y c e=>by
  rw [b8] at e
  rcases kI e with z | ⟨_,z⟩
  ·have:=ok.empty _ _ (PySem.mem_of_lookup z)
   exact .inl ⟨this.2,by rw [hh'];exact this.1⟩
  ·exact .inr ⟨z,hold _ _ z⟩
 have hn:H acc=none:=I.hok.fresh ha
 have fC:H C=none:=I.hok.fresh hC
 have ob:ObjOk X.prog X.w (upd H acc (.lst [])) h' acc (.lst []):=by
  obtain ⟨n,e⟩:=new
  exact ⟨Nat.zero_le _,[],n,.nil,e⟩
 refine ⟨yx T I f hlt hC hm hms,rfl,I.bare,Un.laid k ha hn,⟨mm,ns,fun i y v h1 h2 h3=>?_⟩,fun y c e=>?_,by show upd H acc _ C=none;rw [upd_ne hne];exact fC,fun y c e=>?_,fun p hp=>?_,I.hok.laid k ha ob,?_⟩
 ·have h1:(own++fr)[i]?=some y:=h1
  by_cases hi:i<own.length
  ·rw [List.getElem?_append_left (by rw [List.length_replicate];exact hi),List.getElem?_replicate] at h2
   split at h2<;>cases h2
  ·rw [List.getElem?_append_right (by omega)] at h1
   rw [List.getElem?_append_right (by rw [List.length_replicate];omega),List.length_replicate] at h2
   unfold pick at h2
   rw [List.getElem?_map] at h2
   cases hj:js[i - own.length]? with
   | none=>rw [hj] at h2;cases h2
   | some j=>
     rw [hj] at h2
     have h2s:(σ[j]?).getD none=some v:=Option.some.inj h2
     have h2'':σ[j]?=some (some v):=by
      cases z:σ[j]? with
      | none=>rw [z] at h2s;cases h2s
      | some w=>rw [z] at h2s;exact congrArg some h2s
     obtain ⟨g1,g2,g3,c,gc⟩:=T.fre _ j y hj h1
     obtain ⟨mX,_,hl⟩:=I.loc
     have vis:Vis X.env.scope y:=g2.elim (fun z=>.inr (.inl z)) fun z=>.inr (.inr z)
     obtain ⟨u,r,q⟩:=hl j y v g1 h2'' vis
     refine ⟨u,r,.inr ⟨g3,c,?_,?_⟩⟩
     ·show (cellsFrom m scope.names cl).lookup y=some c
      rw [b8]
      cases z:(cellsFrom m scope.names []).lookup y with
      | none=>rw [iY z];exact gc
      | some c'=>exact absurd (T.newc m y c' z) (T.oldc y c gc)
     ·have hc':=T.sub _ _ gc
      rcases q with ⟨q,_⟩ | ⟨_,c2,e2,z⟩
      ·have q:X.env.scope.names.lookup y=some .local:=q
       rcases g2 with g2 | g2<;>(rw [g2] at q;cases q)
      ·rw [hc'] at e2;cases e2
       exact z.keeps k
 ·rcases spl y c e with ⟨_,z⟩ | ⟨z,_⟩
  ·exact ⟨_,z⟩
  ·obtain ⟨v,q⟩:=I.cell y c (T.sub _ _ z)
   exact ⟨v,q.keeps k⟩
 ·rcases spl y c e with ⟨z,_⟩ | ⟨z,lt⟩
  ·show upd H acc _ c=none
   rw [upd_ne (fun (q:c=acc)=>absurd ham (Nat.not_lt.mpr (q ▸ z)))]
   exact I.hok.fresh (Nat.le_trans hms z)
  ·show upd H acc _ c=none
   rw [upd_ne (fun (q:c=acc)=>absurd lt (Nat.not_lt.mpr (q ▸ ha)))]
   exact I.freeC y c (T.sub _ _ z)
 ·have hp':p∈X.pn++pins:=by simpa using hp
  obtain ⟨e,n,ne,nf,d⟩:=I.pin p hp'
  refine ⟨k _ _ e,?_,Nat.ne_of_lt (Nat.lt_of_lt_of_le (Heap.lt_size e) hC),fun hm=>?_,d⟩
  ·show upd H acc _ p.1=none
   rw [upd_ne (fun z=>absurd (Heap.lt_size e) (by rw [z];exact Nat.not_lt.mpr ha))]
   exact n
  ·rcases List.mem_cons.mp (I.stkSub _ hm) with z | z
   ·exact ne z
   ·exact nf z
 ·show (List.replicate own.length none++pick js σ).length=(own++fr).length
  unfold pick
  rw [List.length_append,List.length_replicate,List.length_map,List.length_append,T.len]
end
section
variable {prog:Program}{w:World}{A:Around}{R:Result->Shared->Prop}{s:Shared}
def qz (ifs:List Expr) (env:Env):Sem Bool:=forIn ifs true fun c r=>if r=true then do let ok ←isTrue c env (eval c env);pure (ForInStep.yield ok) else pure (ForInStep.yield r)
def turnOf (g:Comprehension) (bodyK:Sem Fin->Sem Fin) (c:Code) (it:Value) (env:Env):Sem Fin:=do
 standAt g.iter.pos
 match ←pyNext it with
 | none=>pure (.done .next)
 | some v=>
   letOwnedTupleGo g.target it v
   assign g.target env v
   let ok ←qz g.ifs env
   if ok then bodyK (again c) else again c
def m7 (elt:Expr) (acc:Value) (env:Env) (k:Sem Fin):Sem Fin:=do
 (do let _ ←call (.builtin "list.append") [acc,←eval elt env])
 k
def pG (e:Expr) (i1:Expr) (acc:Value) (env:Env) (k:Sem Fin):Sem Fin:=do
 let x ←eval i1 env
 standAt i1.pos
 let x ←foldedSetIterable i1 env x
 let _ ←runOwn (.compStart e 1 (←holding [x] (pyIter x)) acc env) env
 k
theorem zL (elt target iter:Expr) (ifs:List Expr) (scope:Scope) (pos:Pos) (it acc:Value) (env:Env) :
  compTurn (.ListComp elt [⟨target,iter,ifs,0⟩] scope pos) 0 it acc env=turnOf ⟨target,iter,ifs,0⟩ (m7 elt acc env) (.compLoop (.ListComp elt [⟨target,iter,ifs,0⟩] scope pos) 0 it acc env) it env:=rfl
theorem Dq (elt t0 i0 t1 i1:Expr) (f0 f1:List Expr) (scope:Scope) (pos:Pos) (it acc:Value) (env:Env) :
  compTurn (.ListComp elt [⟨t0,i0,f0,0⟩,⟨t1,i1,f1,0⟩] scope pos) 1 it acc env=turnOf ⟨t1,i1,f1,0⟩ (m7 elt acc env) (.compLoop (.ListComp elt [⟨t0,i0,f0,0⟩,⟨t1,i1,f1,0⟩] scope pos) 1 it acc env) it env:=rfl
theorem Do (elt t0 i0 t1 i1:Expr) (f0 f1:List Expr) (scope:Scope) (pos:Pos) (it acc:Value) (env:Env) :
  compTurn (.ListComp elt [⟨t0,i0,f0,0⟩,⟨t1,i1,f1,0⟩] scope pos) 0 it acc env=turnOf ⟨t0,i0,f0,0⟩ (pG (.ListComp elt [⟨t0,i0,f0,0⟩,⟨t1,i1,f1,0⟩] scope pos) i1 acc env) (.compLoop (.ListComp elt [⟨t0,i0,f0,0⟩,⟨t1,i1,f1,0⟩] scope pos) 0 it acc env) it env:=rfl
def mY (prog:Program) (w:World) (A:Around) (bodyK:Sem Fin->Sem Fin) (W:(Shared->Prop)->Shared->Prop):Prop:=
 ∀ (k:Sem Fin) (Q:Fin->Shared->Prop) (E:Value->Shared->Prop) (s:Shared),W (fun s'=>wpAny (model prog w) A k Q E s') s->wpAny (model prog w) A (bodyK k) Q E s
theorem sY {elt:Expr}{acc:Value}{env:Env}:mY prog w A (m7 elt acc env) (fun P s=>wpAny (model prog w) A (eval elt env) (fun x s1=>wpAny (model prog w) A (call (.builtin "list.append") [acc,x]) (fun _ s2=>P s2) (fun _ _=>False) s1) (fun _ _=>False) s):=by
 intro k Q E s h
 unfold m7
 exact wpAny_bind (wpAny_bind (wpAny_mono h (fun x s1 h1=>wpAny_bind (wpAny_mono h1 (fun _ s2 h2=>wpAny_pure h2) fun _ _ z=>z.elim)) fun _ _ z=>z.elim))
theorem zZ {e i1:Expr}{acc:Value}{env:Env} (hs:∀ x,foldedSetIterable i1 env x=pure x):mY prog w A (pG e i1 acc env) (fun P s=>wpAny (model prog w) A (eval i1 env) (fun x s1=>wpAny (model prog w) A (pyIter x) (fun it s2=>
  codeAny (model prog w) A (.compStart e 1 it acc env) (fun r s3=>match r with
   | .ok _=>P s3
   | .error _=>False) s2) (fun _ _=>False) s1) (fun _ _=>False) s):=by
 intro k Q E s h
 unfold pG
 refine wpAny_bind (wpAny_mono h (fun x s1 h1=>wpAny_bind (wpAny_standAt (wpAny_bind (wpAny_of_eq (hs x) (wpAny_bind (wpAny_holding (wpAny_mono h1 (fun it s2 h2=>?_) fun _ _ z=>z.elim))))))) fun _ _ z=>z.elim)
 refine wpAny_bind (wpAny_runOwn (codeAny_mono h2 fun r s3 h3=>?_))
 cases r with
 | ok f=>exact h3
 | error x=>exact h3.elim
theorem yO {elt:Expr}{gens:List Comprehension}{scope:Scope}{pos:Pos}{depth:Nat}{g:Comprehension}{bodyK:Sem Fin->Sem Fin}{W:(Shared->Prop)->Shared->Prop}{it acc:Value}{env:Env} (I:Nat->Shared->Prop)
  (hturn:compTurn (.ListComp elt gens scope pos) depth it acc env=turnOf g bodyK (.compLoop (.ListComp elt gens scope pos) depth it acc env) it env) (hW:mY prog w A bodyK W)
  (turn:∀ n s,I n s->wpAny (model prog w) A (pyNext it) (fun r s₁=>match r with
    | none=>R (.ok .next) s₁
    | some v=>wpAny (model prog w) A (letOwnedTupleGo g.target it v) (fun _ s₂=>wpAny (model prog w) A (assign g.target env v) (fun _ s₃=>
      wpAny (model prog w) A (qz g.ifs env) (fun ok s₄=>if ok=true then W (fun s₅=>∃ m,m<n∧I m s₅) s₄ else ∃ m,m<n∧I m s₄) (fun _ _=>False) s₃) (fun _ _=>False) s₂) (fun _ _=>False) s₁) (fun _ _=>False) s)
  (hmono:∀ P P' s,(∀ s,P s->P' s)->W P s->W P' s)
  (n:Nat) (h:I n s):codeAny (model prog w) A (.compLoop (.ListComp elt gens scope pos) depth it acc env) R s:=by
 refine codeAny_loop rfl I (fun n s hI=>?_) n h
 show wpAny _ A ((compTurn (.ListComp elt gens scope pos) depth it acc env).onRaise (fun x=>do noteFrame x env;theTreesLotGoes x)) _ _ s
 refine wpAny_noted ?_
 rw [hturn]
 unfold turnOf
 refine wpAny_bind (wpAny_standAt (wpAny_bind (wpAny_mono (turn n s hI) (fun r s₁ h₁=>?_) fun _ _ h'=>h'.elim)))
 cases r with
 | none=>exact wpAny_pure h₁
 | some v=>
   refine wpAny_bind (wpAny_mono h₁ (fun _ s₂ h₂=>wpAny_bind (wpAny_mono h₂ (fun _ s₃ h₃=>wpAny_bind (wpAny_mono h₃ (fun ok s₄ h₄=>?_) fun _ _ h'=>h'.elim)) fun _ _ h'=>h'.elim)) fun _ _ h'=>h'.elim)
   cases ok with
   | false=>
     have h₄:∃ m,m<n∧I m s₄:=h₄
     exact wpAny_pure ⟨rfl,h₄⟩
   | true=>
     have h₄:W (fun s₅=>∃ m,m<n∧I m s₅) s₄:=h₄
     exact hW _ _ _ _ (hmono _ _ _ (fun s₅ h₅=>wpAny_pure ⟨rfl,h₅⟩) h₄)
theorem mV {elt:Expr}{gens:List Comprehension}{scope:Scope}{pos:Pos}{depth:Nat}{g:Comprehension}{it acc:Value}{env:Env} (hg:gens[depth]?=some g) (ha:g.is_async=0)
  (h0:codeAny (model prog w) A (.compLoop (.ListComp elt gens scope pos) depth it acc env) R s)
  (h:wpAny (model prog w) A (pyIter it) (fun it' s'=>codeAny (model prog w) A (.compLoop (.ListComp elt gens scope pos) depth it' acc env) R s') (fun _ _=>False) s) :
  codeAny (model prog w) A (.compStart (.ListComp elt gens scope pos) depth it acc env) R s:=by
 refine codeAny_of_tree ?_
 show wpAny _ _ ((compStart (.ListComp elt gens scope pos) depth it acc env).onRaise (fun x=>do noteFrame x env;standAt theWindowsPlace)) _ _ s
 refine wpAny_notedAt ?_
 unfold compStart
 have e1:(((clausesOf (.ListComp elt gens scope pos))[depth]?).elim false (·.is_async != 0))=false:=by
  show ((gens[depth]?).elim false (·.is_async != 0))=false
  rw [hg]
  show (g.is_async != 0)=false
  rw [ha];rfl
 rw [e1]
 simp only [Bool.false_eq_true,if_false,pure_bind]
 refine wpAny_bind (wpAny_askSetting (wpAny_ite ?_))
 split
 ·first
   | exact wpAny_bind (wpAny_pure (wpAny_pure (And.intro rfl h0)))
   | exact wpAny_pure (And.intro rfl h0)
 ·refine wpAny_bind (wpAny_rule ?_)
  have e2:(clausesOf (.ListComp elt gens scope pos))[depth]?=some g:=hg
  rw [e2]
  exact wpAny_bind (wpAny_standAt (wpAny_bind (wpAny_mono h (fun it' s' h'=>wpAny_pure (And.intro rfl h')) fun _ _ x=>x.elim)))
end
section
variable {prog:Program}{w:World}{A:Around}{E:Value->Shared->Prop}{s:Shared}
theorem vL {ia t:Addr}{k:Nat}{its:Array Value}{y:Value}{Q:Value->Shared->Prop} (hi:IsTupIter s.heap ia t k) (ht:IsTup s.heap t its) (hy:its[k]?=some y)
  (hQ:∀ h',IsTupIter h' ia t (k + 1)->Heap.SameBut ia s.heap h'->Q y { s with heap:=h' }):wpAny (model prog w) A (Builtin.SmallTypes.nextOf (.ref ia)) Q E s:=by
 obtain ⟨oi,hoi,hci,hdi⟩:=id hi
 obtain ⟨ot,hot,_,nt,hdt⟩:=ht
 unfold Builtin.SmallTypes.nextOf
 refine wpAny_bind (wpAny_callSpecial?_slot (name:=Str.ofString "__next__") hi.typeIs slot_tupleiter_next (wpAny_call_entry slot_tupleiter_next hi.typeIs entry_tupleiter_next ?_ (args_tupleiter_next _)))
 show wpAny _ _ (field (.ref ia) 0 >>= _) _ _ s
 refine wpAny_bind (wpAny_field hoi hdi (x:=.ref t) rfl ?_)
 show wpAny _ _ (if (Value.ref t == Value.none)=true then _ else _) _ _ s
 rw [if_neg (fun z:(Value.ref t == Value.none)=true=>Bool.false_ne_true z)]
 show wpAny _ _ (field (.ref ia) 1 >>= _) _ _ s
 refine wpAny_bind (wpAny_field hoi hdi (x:=.int k 0) rfl ?_)
 show wpAny _ _ (seqItems? (.ref t) >>= _) _ _ s
 refine wpAny_bind (wpAny_seqItems hot hdt ?_)
 simp only [Int.toNat_natCast,hy]
 refine wpAny_bind (wpAny_setField hoi hdi (by simp) (wpAny_pure ⟨y,rfl,wpAny_pure (hQ _ ⟨_,Heap.get?_update_self _ hoi (Obj.isFreed_of_fields (Obj.data_mapFields hdi _)),(Obj.cls_mapFields ..).trans hci,?_⟩ (Heap.SameBut.update ..))⟩))
 rw [Obj.data_mapFields hdi];simp [rawInt]
theorem uA {ia t:Addr}{k:Nat}{its:Array Value}{Q:Value->Shared->Prop} (hh:A.handled=none) (hi:IsTupIter s.heap ia t k) (ht:IsTup s.heap t its) (hy:its[k]?=none)
  (hE:∀ h' e,Heap.ExtBut ia s.heap h'->(∃ o,h'.get? e=some o∧o.cls=.type "StopIteration")->E (.ref e) { s with heap:=h' }):wpAny (model prog w) A (Builtin.SmallTypes.nextOf (.ref ia)) Q E s:=by
 obtain ⟨oi,hoi,hci,hdi⟩:=id hi
 obtain ⟨ot,hot,_,nt,hdt⟩:=ht
 unfold Builtin.SmallTypes.nextOf
 refine wpAny_bind (wpAny_callSpecial?_slot (name:=Str.ofString "__next__") hi.typeIs slot_tupleiter_next (wpAny_call_entry slot_tupleiter_next hi.typeIs entry_tupleiter_next ?_ (args_tupleiter_next _)))
 show wpAny _ _ (field (.ref ia) 0 >>= _) _ _ s
 refine wpAny_bind (wpAny_field hoi hdi (x:=.ref t) rfl ?_)
 show wpAny _ _ (if (Value.ref t == Value.none)=true then _ else _) _ _ s
 rw [if_neg (fun z:(Value.ref t == Value.none)=true=>Bool.false_ne_true z)]
 show wpAny _ _ (field (.ref ia) 1 >>= _) _ _ s
 refine wpAny_bind (wpAny_field hoi hdi (x:=.int k 0) rfl ?_)
 show wpAny _ _ (seqItems? (.ref t) >>= _) _ _ s
 refine wpAny_bind (wpAny_seqItems hot hdt ?_)
 simp only [Int.toNat_natCast,hy]
 refine wpAny_bind (wpAny_rule (wpAny_bind (wpAny_setField hoi hdi (by simp) ?_)))
 show wpAny _ _ (newExc (.type "StopIteration") ([]:List Value) >>= fun _=>_) _ _ _
 refine wpAny_bind ?_
 simp only [newExc,newTuple]
 refine wpAny_bind (wpAny_newObj_type ?_ (by size_fits:_))
 refine wpAny_bind (m:=firstArgMember _ _) (wpAny_of_eq (a:=Value.none) (by first | rfl | simp only [firstArgMember]) ?_)
 refine wpAny_newObj_type ?_ (by size_fits:_)
 simp only [raiseNew]
 refine wpAny_bind (wpAny_handled ?_)
 first | rw [hh] | rw [show A.in1.handled=none from hh]
 refine wpAny_bind (wpAny_pure (wpAny_throw (hE _ _ (((Heap.SameBut.update ..).extBut.push _).push _) ⟨_,Heap.get?_push_size _ rfl,rfl⟩)))
end
structure SubIt (P:Program) (w:World) (i l:Addr) (its:Array Value) (st:Nat->Heap->Prop):Prop where
 obj:∀ k h,st k h->(∃ o,h.get? i=some o∧∀ v,o.data≠.cell v)∧∃ o,h.get? l=some o
 keep:∀ k h h',st k h->(∀ o,h.get? i=some o->h'.get? i=some o)->(∀ o,h.get? l=some o->h'.get? l=some o)->st k h'
 item:∀ (A:Around) k (s:Shared) x (Q:Value->Shared->Prop) (E:Value->Shared->Prop),st k s.heap->its[k]?=some x->(∀ h',st (k + 1) h'->Heap.SameBut i s.heap h'->Q x { s with heap:=h' })->wpAny (model P w) A (Builtin.SmallTypes.nextOf (.ref i)) Q E s
 done:∀ (A:Around) k (s:Shared) (Q:Value->Shared->Prop) (E:Value->Shared->Prop),A.handled=none->st k s.heap->its[k]?=none->(∀ h' e,Heap.ExtBut i s.heap h'->(∃ o,h'.get? e=some o∧o.cls=.type "StopIteration")->E (.ref e) { s with heap:=h' })->wpAny (model P w) A (Builtin.SmallTypes.nextOf (.ref i)) Q E s
theorem Bg {P:Program}{w:World}{i l:Addr} (hne:l≠i) (its:Array Value):SubIt P w i l its (fun k h=>IsTupIter h i l k∧IsTup h l its) where
 obj:=fun k h ⟨⟨o,e,_,d⟩,⟨o',e',_⟩⟩=>⟨⟨o,e,fun v z=>by rw [d] at z;cases z⟩,o',e'⟩
 keep:=fun k h h' ⟨⟨o,e,r⟩,⟨o',e',r'⟩⟩ k1 k2=>⟨⟨o,k1 _ e,r⟩,⟨o',k2 _ e',r'⟩⟩
 item:=fun A k s x Q E st hx hQ=>vL st.1 st.2 hx fun h' h1 h2=>hQ h' ⟨h1,st.2.extBut h2.extBut hne⟩ h2
 done:=fun A k s Q E hh st hx hE=>uA hh st.1 st.2 hx hE
theorem Bf {P:Program}{w:World}{i l:Addr} (hne:l≠i) (its:Array Value):SubIt P w i l its (fun k h=>h.IsListIter i l k∧h.IsList l its) where
 obj:=fun k h ⟨⟨o,e,_,d⟩,⟨o',e',_⟩⟩=>⟨⟨o,e,fun v z=>by rw [d] at z;cases z⟩,o',e'⟩
 keep:=fun k h h' ⟨⟨o,e,r⟩,⟨o',e',r'⟩⟩ k1 k2=>⟨⟨o,k1 _ e,r⟩,⟨o',k2 _ e',r'⟩⟩
 item:=fun A k s x Q E st hx hQ=>wpAny_nextOf_list_item st.1 st.2 hx fun h' h1 h2=>hQ h' ⟨h1,st.2.extBut h2.extBut hne⟩ h2
 done:=fun A k s Q E hh st hx hE=>wpAny_nextOf_list_end hh st.1 st.2 hx hE
section
variable {P:Program}{w:World}{A:Around}{E:Value->Shared->Prop}{s:Shared}{z TI TO i1 i2 l1 l2:Addr}{xs ys:Array Value}{st1 st2:Nat->Heap->Prop}
theorem xY {k:Nat}{x y a b:Value}{Q:Value->Shared->Prop} (D:ZipApart z TI TO i1 i2 l1 l2) (S1:SubIt P w i1 l1 xs st1) (S2:SubIt P w i2 l2 ys st2)
  (hz:IsZip s.heap z TI TO .none) (hTI:IsPair s.heap TI (.ref i1) (.ref i2)) (hTO:IsPair s.heap TO a b) (h1:st1 k s.heap) (h2:st2 k s.heap) (hx:xs[k]?=some x) (hy:ys[k]?=some y)
  (hQ:∀ h',IsZip h' z TI TO (rawInt s.heap.objs.size)->IsPair h' TO x y->st1 (k + 1) h'->st2 (k + 1) h'->IsPair h' s.heap.objs.size x y->h'.objs.size=s.heap.objs.size + 1->(∀ c o,c≠z->c≠TO->c≠i1->c≠i2->s.heap.get? c=some o->h'.get? c=some o)->Q (.ref s.heap.objs.size) { s with heap:=h' }) :
  wpAny (model P w) A (Builtin.«zip.__next__» ⟨[.ref z],[]⟩) (fun fin s'=>∃ v,fin=.done (.ret v)∧Q v s') E s:=by
 show wpAny _ _ (field (.ref z) 2 >>= fun _=>_) _ _ _
 refine wpAny_bind (wpAny_field hz rfl (x:=.bool false) rfl (show _ from ?_))
 show wpAny _ _ (field (.ref z) 3 >>= fun _=>_) _ _ _
 refine wpAny_bind (wpAny_field hz rfl (x:=.ref TI) rfl (show _ from ?_))
 refine wpAny_bind (wpAny_seqItems hTI rfl (show _ from ?_))
 show wpAny _ _ (Builtin.SmallTypes.ownedTupleIsFree (.ref z) >>= fun _=>_) _ _ _
 refine wpAny_bind ?_
 unfold Builtin.SmallTypes.ownedTupleIsFree
 refine wpAny_bind (wpAny_field hz rfl (x:=.none) rfl (wpAny_pure (show _ from ?_)))
 simp only [if_true]
 refine wpAny_bind (wpAny_rule (show _ from ?_))
 refine wpAny_bind (wpAny_field hz rfl (x:=.ref TO) rfl (show _ from ?_))
 refine wpAny_bind (wpAny_setField_rec hz (by simp) fun g1 hz1 e1=>?_)
 replace hz1:IsZip g1 z TI TO .ellipsis:=hz1
 have n1:=(S1.obj _ _ h1).2
 refine wpAny_bind ?_
 simp only [List.zipIdx_cons,List.zipIdx_nil,List.forIn_cons,List.forIn_nil]
 refine wpAny_bind (wpAny_bind (wpAny_onRaise (show _ from ?_)))
 show wpAny _ _ (Builtin.SmallTypes.nextOf (.ref i1) >>= fun _=>_) _ _ _
 refine wpAny_bind (S1.item _ k _ x _ _ (S1.keep _ _ _ h1 (fun o q=>e1.extBut _ _ D.i1z q) fun o q=>e1.extBut _ _ D.l1z q) hx fun g2 h12 e2=>wpAny_pure ?_)
 have hTO2:IsPair g2 TO a b:=e2.extBut _ _ D.TOi1 (e1.extBut _ _ D.TOz hTO)
 refine wpAny_bind (wpAny_seqItems hTO2 rfl (show _ from ?_))
 refine wpAny_bind (wpAny_updateSeq_pair hTO2 fun g3 hTO3 e3=>?_)
 replace hTO3:IsPair g3 TO x b:=hTO3
 refine wpAny_bind (wpAny_letGo (wpAny_pure (show _ from ?_)))
 refine wpAny_bind (wpAny_bind (wpAny_onRaise (show _ from ?_)))
 show wpAny _ _ (Builtin.SmallTypes.nextOf (.ref i2) >>= fun _=>_) _ _ _
 refine wpAny_bind (S2.item _ k _ y _ _ (S2.keep _ _ _ h2 (fun o q=>e3.extBut _ _ D.TOi2.symm (e2.extBut _ _ D.i12.symm (e1.extBut _ _ D.i2z q))) fun o q=>e3.extBut _ _ D.l2TO (e2.extBut _ _ D.l2i1 (e1.extBut _ _ D.l2z q))) hy fun g4 h24 e4=>wpAny_pure ?_)
 have hTO4:IsPair g4 TO x b:=e4.extBut _ _ D.TOi2 hTO3
 refine wpAny_bind (wpAny_seqItems hTO4 rfl (show _ from ?_))
 refine wpAny_bind (wpAny_updateSeq_pair hTO4 fun g5 hTO5 e5=>?_)
 replace hTO5:IsPair g5 TO x y:=hTO5
 refine wpAny_bind (wpAny_letGo (wpAny_pure (wpAny_pure (show _ from ?_))))
 refine wpAny_bind (wpAny_seqItems hTO5 rfl (show _ from ?_))
 refine wpAny_bind (wpAny_newTuple (show _ from ?_))
 have hsz:g5.objs.size=s.heap.objs.size:=by rw [e5.1,e4.1,e3.1,e2.1,e1.1]
 have hz5:IsZip g5 z TI TO .ellipsis:=e5.extBut _ _ D.TOz.symm (e4.extBut _ _ D.i2z.symm (e3.extBut _ _ D.TOz.symm (e2.extBut _ _ D.i1z.symm hz1)))
 have hk5:∀ c o,c≠z->c≠TO->c≠i1->c≠i2->s.heap.get? c=some o->g5.get? c=some o:=fun c o c1 c2 c3 c4 q=>e5.extBut _ _ c2 (e4.extBut _ _ c4 (e3.extBut _ _ c2 (e2.extBut _ _ c3 (e1.extBut _ _ c1 q))))
 have h15:st1 (k + 1) g5:=S1.keep _ _ _ h12 (fun o q=>e5.extBut _ _ D.TOi1.symm (e4.extBut _ _ D.i12 (e3.extBut _ _ D.TOi1.symm q))) fun o q=>e5.extBut _ _ D.l1TO (e4.extBut _ _ D.l1i2 (e3.extBut _ _ D.l1TO q))
 have h25:st2 (k + 1) g5:=S2.keep _ _ _ h24 (fun o q=>e5.extBut _ _ D.TOi2.symm q) fun o q=>e5.extBut _ _ D.l2TO q
 have hzlt:z<g5.objs.size:=Heap.lt_size hz5
 show wpAny _ _ (Builtin.SmallTypes.ownedTupleHandOut (.ref z) (.ref g5.objs.size) >>= fun _=>_) _ _ _
 refine wpAny_bind ?_
 unfold Builtin.SmallTypes.ownedTupleHandOut
 have hz6:IsZip (g5.push { cls:=.type "tuple",data:=.seq #[x,y] }) z TI TO .ellipsis:=Heap.get?_push_of_some _ hz5
 refine wpAny_bind (wpAny_setField_rec hz6 (by simp) fun g7 hz7 e7=>?_)
 replace hz7:IsZip g7 z TI TO (rawInt g5.objs.size):=hz7
 refine wpAny_setField_rec hz7 (by simp) fun g8 hz8 e8=>?_
 replace hz8:IsZip g8 z TI TO (rawInt g5.objs.size):=hz8
 have up:∀ c o,c≠z->g5.get? c=some o->g8.get? c=some o:=fun c o c1 q=>e8.extBut _ _ c1 (e7.extBut _ _ c1 (Heap.get?_push_of_some _ q))
 have hT8:IsPair g8 g5.objs.size x y:=e8.extBut _ _ (Nat.ne_of_gt hzlt) (e7.extBut _ _ (Nat.ne_of_gt hzlt) (Heap.get?_push_size _ rfl))
 have sz8:g8.objs.size=g5.objs.size + 1:=by rw [e8.1,e7.1,Heap.size_push]
 rw [hsz] at hz8 hT8 sz8
 refine wpAny_pure ⟨_,rfl,?_⟩
 show Q (.ref g5.objs.size) _
 rw [hsz]
 exact hQ g8 hz8 (up _ _ D.TOz hTO5) (S1.keep _ _ _ h15 (fun o q=>up _ o D.i1z q) fun o q=>up _ o D.l1z q) (S2.keep _ _ _ h25 (fun o q=>up _ o D.i2z q) fun o q=>up _ o D.l2z q) hT8 sz8 fun c o c1 c2 c3 c4 q=>up c o c1 (hk5 c o c1 c2 c3 c4 q)
theorem zg {k:Nat}{a b:Value}{Q:Fin->Shared->Prop} (hh:A.handled=none) (D:ZipApart z TI TO i1 i2 l1 l2) (S1:SubIt P w i1 l1 xs st1) (S2:SubIt P w i2 l2 ys st2)
  (hz:IsZip s.heap z TI TO .none) (hTI:IsPair s.heap TI (.ref i1) (.ref i2)) (hTO:IsPair s.heap TO a b) (h1:st1 k s.heap) (h2:st2 k s.heap) (hend:xs[k]?=none∨ys[k]?=none)
  (hE:∀ h' e,(∀ c o,c≠z->c≠TO->c≠i1->c≠i2->s.heap.get? c=some o->h'.get? c=some o)->(∃ o,h'.get? e=some o∧o.cls=.type "StopIteration")->E (.ref e) { s with heap:=h' }) :
  wpAny (model P w) A (Builtin.«zip.__next__» ⟨[.ref z],[]⟩) Q E s:=by
 show wpAny _ _ (field (.ref z) 2 >>= fun _=>_) _ _ _
 refine wpAny_bind (wpAny_field hz rfl (x:=.bool false) rfl (show _ from ?_))
 show wpAny _ _ (field (.ref z) 3 >>= fun _=>_) _ _ _
 refine wpAny_bind (wpAny_field hz rfl (x:=.ref TI) rfl (show _ from ?_))
 refine wpAny_bind (wpAny_seqItems hTI rfl (show _ from ?_))
 show wpAny _ _ (Builtin.SmallTypes.ownedTupleIsFree (.ref z) >>= fun _=>_) _ _ _
 refine wpAny_bind ?_
 unfold Builtin.SmallTypes.ownedTupleIsFree
 refine wpAny_bind (wpAny_field hz rfl (x:=.none) rfl (wpAny_pure (show _ from ?_)))
 simp only [if_true]
 refine wpAny_bind (wpAny_rule (show _ from ?_))
 refine wpAny_bind (wpAny_field hz rfl (x:=.ref TO) rfl (show _ from ?_))
 refine wpAny_bind (wpAny_setField_rec hz (by simp) fun g1 hz1 e1=>?_)
 replace hz1:IsZip g1 z TI TO .ellipsis:=hz1
 refine wpAny_bind ?_
 simp only [List.zipIdx_cons,List.zipIdx_nil,List.forIn_cons,List.forIn_nil]
 refine wpAny_bind (wpAny_bind (wpAny_onRaise (show _ from ?_)))
 show wpAny _ _ (Builtin.SmallTypes.nextOf (.ref i1) >>= fun _=>_) _ _ _
 have h11:st1 k g1:=S1.keep _ _ _ h1 (fun o q=>e1.extBut _ _ D.i1z q) fun o q=>e1.extBut _ _ D.l1z q
 cases hx:xs[k]? with
 | none=>
   refine wpAny_bind (S1.done _ k _ _ _ hh h11 hx fun g2 e e2 he=>?_)
   obtain ⟨oe,hoe,hce⟩:=he
   have hz2:IsZip g2 z TI TO .ellipsis:=e2 _ _ D.i1z.symm hz1
   have hez:e≠z:=fun q=>by subst q;rw [hz2] at hoe;cases hoe;simp at hce
   refine wpAny_setField_rec hz2 (by simp) fun g3 _ e3=>hE g3 e (fun c o c1 _ c3 _ q=>e3.extBut _ _ c1 (e2 _ _ c3 (e1.extBut _ _ c1 q))) ⟨oe,e3.extBut _ _ hez hoe,hce⟩
 | some x=>
   have hy:ys[k]?=none:=by rcases hend with q | q;rw [hx] at q;cases q;exact q
   refine wpAny_bind (S1.item _ k _ x _ _ h11 hx fun g2 h12 e2=>wpAny_pure ?_)
   have hTO2:IsPair g2 TO a b:=e2.extBut _ _ D.TOi1 (e1.extBut _ _ D.TOz hTO)
   refine wpAny_bind (wpAny_seqItems hTO2 rfl (show _ from ?_))
   refine wpAny_bind (wpAny_updateSeq_pair hTO2 fun g3 hTO3 e3=>?_)
   refine wpAny_bind (wpAny_letGo (wpAny_pure (show _ from ?_)))
   refine wpAny_bind (wpAny_bind (wpAny_onRaise (show _ from ?_)))
   show wpAny _ _ (Builtin.SmallTypes.nextOf (.ref i2) >>= fun _=>_) _ _ _
   refine wpAny_bind (S2.done _ k _ _ _ hh (S2.keep _ _ _ h2 (fun o q=>e3.extBut _ _ D.TOi2.symm (e2.extBut _ _ D.i12.symm (e1.extBut _ _ D.i2z q))) fun o q=>e3.extBut _ _ D.l2TO (e2.extBut _ _ D.l2i1 (e1.extBut _ _ D.l2z q))) hy fun g4 e e4 he=>?_)
   obtain ⟨oe,hoe,hce⟩:=he
   have hz4:IsZip g4 z TI TO .ellipsis:=e4 _ _ D.i2z.symm (e3.extBut _ _ D.TOz.symm (e2.extBut _ _ D.i1z.symm hz1))
   have hez:e≠z:=fun q=>by subst q;rw [hz4] at hoe;cases hoe;simp at hce
   refine wpAny_setField_rec hz4 (by simp) fun g5 _ e5=>hE g5 e (fun c o c1 c2 c3 c4 q=>e5.extBut _ _ c1 (e4 _ _ c4 (e3.extBut _ _ c2 (e2.extBut _ _ c3 (e1.extBut _ _ c1 q))))) ⟨oe,e5.extBut _ _ hez hoe,hce⟩
end
abbrev zM (h:Heap) (T1:String) (l1:Addr):Heap:=h.push { cls:=.type T1,data:=.fields #[.ref l1,.int 0 0] }
abbrev zN (h:Heap) (T1 T2:String) (l1 l2:Addr):Heap:=(zM h T1 l1).push { cls:=.type T2,data:=.fields #[.ref l2,.int 0 0] }
abbrev zO (h:Heap) (T1 T2:String) (l1 l2:Addr):Heap:=(zN h T1 T2 l1 l2).push { cls:=.type "tuple",data:=.seq #[.ref h.objs.size,.ref (zM h T1 l1).objs.size] }
abbrev ou (h:Heap) (T1 T2:String) (l1 l2:Addr):Heap:=(zO h T1 T2 l1 l2).push { cls:=.type "tuple",data:=.seq #[.none,.none] }
abbrev jQ (h:Heap) (T1 T2:String) (l1 l2:Addr):Heap:=(ou h T1 T2 l1 l2).push { cls:=.type "zip",data:=.fields #[.none,.bool false,.bool false,.ref (zN h T1 T2 l1 l2).objs.size,.ref (zO h T1 T2 l1 l2).objs.size] }
theorem tY (l1 l2:Addr) (xs ys:Array Value) :
  Meets (Builtin.«zip.__new__» ⟨[.type "zip",.ref l1,.ref l2],[]⟩) (fun _ R s=>IsTup s.heap l1 xs∧IsTup s.heap l2 ys∧R (.ok (.ret (.ref (ou s.heap "tuple_iterator" "tuple_iterator" l1 l2).objs.size))) { s with heap:=jQ s.heap "tuple_iterator" "tuple_iterator" l1 l2 }):=
 .of_wp fun prog w A R s h=>by
  obtain ⟨hp,gn,dr,tk,os⟩:=s;obtain ⟨k1,k2,h⟩:=h
  have hsub:=sub_zip
  have K1:IsTup (Shared.heap ⟨hp,gn,dr,tk,os⟩) l1 xs:=k1
  have K2:IsTup (Shared.heap ⟨hp.push { cls:=.type "tuple_iterator",data:=.fields #[.ref l1,.int 0 0] },gn,dr,tk,os⟩) l2 ys:=k2.push _
  wp_walk using iter_tuple K1,iter_tuple K2
  exact ⟨_,rfl,h⟩
theorem tW (l1 l2:Addr) (xs ys:Array Value) :
  Meets (Builtin.«zip.__new__» ⟨[.type "zip",.ref l1,.ref l2],[]⟩) (fun _ R s=>s.heap.IsList l1 xs∧IsTup s.heap l2 ys∧R (.ok (.ret (.ref (ou s.heap "list_iterator" "tuple_iterator" l1 l2).objs.size))) { s with heap:=jQ s.heap "list_iterator" "tuple_iterator" l1 l2 }):=
 .of_wp fun prog w A R s h=>by
  obtain ⟨hp,gn,dr,tk,os⟩:=s;obtain ⟨k1,k2,h⟩:=h
  have hsub:=sub_zip
  have K1:Heap.IsList (Shared.heap ⟨hp,gn,dr,tk,os⟩) l1 xs:=k1
  have K2:IsTup (Shared.heap ⟨hp.push { cls:=.type "list_iterator",data:=.fields #[.ref l1,.int 0 0] },gn,dr,tk,os⟩) l2 ys:=k2.push _
  wp_walk using wpAny_pyIter_list K1,iter_tuple K2
  exact ⟨_,rfl,h⟩
theorem tX (l1 l2:Addr) (xs ys:Array Value) :
  Meets (Builtin.«zip.__new__» ⟨[.type "zip",.ref l1,.ref l2],[]⟩) (fun _ R s=>IsTup s.heap l1 xs∧s.heap.IsList l2 ys∧R (.ok (.ret (.ref (ou s.heap "tuple_iterator" "list_iterator" l1 l2).objs.size))) { s with heap:=jQ s.heap "tuple_iterator" "list_iterator" l1 l2 }):=
 .of_wp fun prog w A R s h=>by
  obtain ⟨hp,gn,dr,tk,os⟩:=s;obtain ⟨k1,k2,h⟩:=h
  have hsub:=sub_zip
  have K1:IsTup (Shared.heap ⟨hp,gn,dr,tk,os⟩) l1 xs:=k1
  have K2:Heap.IsList (Shared.heap ⟨hp.push { cls:=.type "tuple_iterator",data:=.fields #[.ref l1,.int 0 0] },gn,dr,tk,os⟩) l2 ys:=Heap.IsList.push k2 _
  wp_walk using iter_tuple K1,wpAny_pyIter_list K2
  exact ⟨_,rfl,h⟩
theorem tV (l1 l2:Addr) (xs ys:Array Value) :
  Meets (Builtin.«zip.__new__» ⟨[.type "zip",.ref l1,.ref l2],[]⟩) (fun _ R s=>s.heap.IsList l1 xs∧s.heap.IsList l2 ys∧R (.ok (.ret (.ref (ou s.heap "list_iterator" "list_iterator" l1 l2).objs.size))) { s with heap:=jQ s.heap "list_iterator" "list_iterator" l1 l2 }):=
 .of_wp fun prog w A R s h=>by
  obtain ⟨hp,gn,dr,tk,os⟩:=s;obtain ⟨k1,k2,h⟩:=h
  have hsub:=sub_zip
  have K1:Heap.IsList (Shared.heap ⟨hp,gn,dr,tk,os⟩) l1 xs:=k1
  have K2:Heap.IsList (Shared.heap ⟨hp.push { cls:=.type "list_iterator",data:=.fields #[.ref l1,.int 0 0] },gn,dr,tk,os⟩) l2 ys:=Heap.IsList.push k2 _
  wp_walk using wpAny_pyIter_list K1,wpAny_pyIter_list K2
  exact ⟨_,rfl,h⟩
def fu (b:Bool) (h:Heap) (l:Addr) (xs:Array Value):Prop:=if b then IsTup h l xs else h.IsList l xs
def oZ (b:Bool) (i l:Addr) (xs:Array Value) (k:Nat) (h:Heap):Prop:=(if b then IsTupIter h i l k else h.IsListIter i l k)∧fu b h l xs
theorem nu {P:Program}{w:World}{i l:Addr} (b:Bool) (hne:l≠i) (its:Array Value):SubIt P w i l its (oZ b i l its):=by
 cases b with
 | true=>exact Bg hne its
 | false=>exact Bf hne its
theorem fu.lt {b:Bool}{h:Heap}{l:Addr}{xs:Array Value} (q:fu b h l xs):l<h.objs.size:=by
 cases b with
 | true=>obtain ⟨o,e,_⟩:=(show IsTup h l xs from q);exact Heap.lt_size e
 | false=>obtain ⟨o,e,_⟩:=(show h.IsList l xs from q);exact Heap.lt_size e
theorem fu.keep {b:Bool}{h h':Heap}{l:Addr}{xs:Array Value} (q:fu b h l xs) (k:∀ o,h.get? l=some o->h'.get? l=some o):fu b h' l xs:=by
 cases b with
 | true=>obtain ⟨o,e,r⟩:=(show IsTup h l xs from q);exact ⟨o,k _ e,r⟩
 | false=>obtain ⟨o,e,r⟩:=(show h.IsList l xs from q);exact ⟨o,k _ e,r⟩
section
variable {P:Program}{w:World}{A:Around}{E:Value->Shared->Prop}{s:Shared}{l1 l2:Addr}{xs ys:Array Value}
theorem wC {b1 b2:Bool}{Q:Value->Shared->Prop} (k1:fu b1 s.heap l1 xs) (k2:fu b2 s.heap l2 ys)
  (h:∀ h',IsZip h' (s.heap.objs.size + 4) (s.heap.objs.size + 2) (s.heap.objs.size + 3) .none->IsPair h' (s.heap.objs.size + 2) (.ref s.heap.objs.size) (.ref (s.heap.objs.size + 1))->IsPair h' (s.heap.objs.size + 3) .none .none->
    oZ b1 s.heap.objs.size l1 xs 0 h'->oZ b2 (s.heap.objs.size + 1) l2 ys 0 h'->h'.objs.size=s.heap.objs.size + 5->(∀ c o,s.heap.get? c=some o->h'.get? c=some o)->Q (.ref (s.heap.objs.size + 4)) { s with heap:=h' }) :
  wpAny (model P w) A (call (.type "zip") [.ref l1,.ref l2]) Q E s:=by
 have fin:∀ T1 T2,(∀ h' k,h'.get? s.heap.objs.size=some { cls:=.type T1,data:=.fields #[.ref l1,.int 0 0] }->fu b1 h' l1 xs->k=0->oZ b1 s.heap.objs.size l1 xs k h')->
   (∀ h' k,h'.get? (s.heap.objs.size + 1)=some { cls:=.type T2,data:=.fields #[.ref l2,.int 0 0] }->fu b2 h' l2 ys->k=0->oZ b2 (s.heap.objs.size + 1) l2 ys k h')->
   s.TypeIs (.ref (ou s.heap T1 T2 l1 l2).objs.size) "zip"∨True->Q (.ref (ou s.heap T1 T2 l1 l2).objs.size) { s with heap:=jQ s.heap T1 T2 l1 l2 }∧({ s with heap:=jQ s.heap T1 T2 l1 l2 }:Shared).TypeIs (.ref (ou s.heap T1 T2 l1 l2).objs.size) "zip":=by
  intro T1 T2 f1 f2 _
  have z1:(zM s.heap T1 l1).objs.size=s.heap.objs.size + 1:=Heap.size_push ..
  have z2:(zN s.heap T1 T2 l1 l2).objs.size=s.heap.objs.size + 2:=by rw [Heap.size_push,z1]
  have z3:(zO s.heap T1 T2 l1 l2).objs.size=s.heap.objs.size + 3:=by rw [Heap.size_push,z2]
  have z4:(ou s.heap T1 T2 l1 l2).objs.size=s.heap.objs.size + 4:=by rw [Heap.size_push,z3]
  have z5:(jQ s.heap T1 T2 l1 l2).objs.size=s.heap.objs.size + 5:=by rw [Heap.size_push,z4]
  have up:∀ c o,s.heap.get? c=some o->(jQ s.heap T1 T2 l1 l2).get? c=some o:=fun c o q=>Heap.get?_push_of_some _ (Heap.get?_push_of_some _ (Heap.get?_push_of_some _ (Heap.get?_push_of_some _ (Heap.get?_push_of_some _ q))))
  have q5:(jQ s.heap T1 T2 l1 l2).get? (ou s.heap T1 T2 l1 l2).objs.size=some _:=Heap.get?_push_size _ rfl
  have q4:(jQ s.heap T1 T2 l1 l2).get? (zO s.heap T1 T2 l1 l2).objs.size=some _:=Heap.get?_push_of_some _ (Heap.get?_push_size _ rfl)
  have q3:(jQ s.heap T1 T2 l1 l2).get? (zN s.heap T1 T2 l1 l2).objs.size=some _:=Heap.get?_push_of_some _ (Heap.get?_push_of_some _ (Heap.get?_push_size _ rfl))
  have q2:(jQ s.heap T1 T2 l1 l2).get? (zM s.heap T1 l1).objs.size=some _:=Heap.get?_push_of_some _ (Heap.get?_push_of_some _ (Heap.get?_push_of_some _ (Heap.get?_push_size _ rfl)))
  have q1:(jQ s.heap T1 T2 l1 l2).get? s.heap.objs.size=some _:=Heap.get?_push_of_some _ (Heap.get?_push_of_some _ (Heap.get?_push_of_some _ (Heap.get?_push_of_some _ (Heap.get?_push_size _ rfl))))
  rw [z2,z3,z4] at q5
  rw [z1,z2] at q3
  rw [z3] at q4
  rw [z1] at q2
  rw [z4]
  exact ⟨h _ q5 q3 q4 (f1 _ 0 q1 (k1.keep fun o q=>up _ _ q) rfl) (f2 _ 0 q2 (k2.keep fun o q=>up _ _ q) rfl) z5 up,_,q5,rfl⟩
 cases b1 with
 | true=>cases b2 with
   | true=>
     refine callType_new F.called_zip (by decide) (F.typeCall_zip_2 _ _) (F.newCall_zip_2 _ _) (fun obj=>F.args_object_init_3 obj _ _) F.entry_zip_new (tY l1 l2 xs ys) ⟨k1,k2,?_⟩
     obtain ⟨a1,a2⟩:=fin "tuple_iterator" "tuple_iterator" (fun h' k q q' e=>by subst e;exact ⟨⟨_,q,rfl,rfl⟩,q'⟩) (fun h' k q q' e=>by subst e;exact ⟨⟨_,q,rfl,rfl⟩,q'⟩) (.inr trivial)
     exact ⟨a2,a1⟩
   | false=>
     refine callType_new F.called_zip (by decide) (F.typeCall_zip_2 _ _) (F.newCall_zip_2 _ _) (fun obj=>F.args_object_init_3 obj _ _) F.entry_zip_new (tX l1 l2 xs ys) ⟨k1,k2,?_⟩
     obtain ⟨a1,a2⟩:=fin "tuple_iterator" "list_iterator" (fun h' k q q' e=>by subst e;exact ⟨⟨_,q,rfl,rfl⟩,q'⟩) (fun h' k q q' e=>by subst e;exact ⟨⟨_,q,rfl,rfl⟩,q'⟩) (.inr trivial)
     exact ⟨a2,a1⟩
 | false=>cases b2 with
   | true=>
     refine callType_new F.called_zip (by decide) (F.typeCall_zip_2 _ _) (F.newCall_zip_2 _ _) (fun obj=>F.args_object_init_3 obj _ _) F.entry_zip_new (tW l1 l2 xs ys) ⟨k1,k2,?_⟩
     obtain ⟨a1,a2⟩:=fin "list_iterator" "tuple_iterator" (fun h' k q q' e=>by subst e;exact ⟨⟨_,q,rfl,rfl⟩,q'⟩) (fun h' k q q' e=>by subst e;exact ⟨⟨_,q,rfl,rfl⟩,q'⟩) (.inr trivial)
     exact ⟨a2,a1⟩
   | false=>
     refine callType_new F.called_zip (by decide) (F.typeCall_zip_2 _ _) (F.newCall_zip_2 _ _) (fun obj=>F.args_object_init_3 obj _ _) F.entry_zip_new (tV l1 l2 xs ys) ⟨k1,k2,?_⟩
     obtain ⟨a1,a2⟩:=fin "list_iterator" "list_iterator" (fun h' k q q' e=>by subst e;exact ⟨⟨_,q,rfl,rfl⟩,q'⟩) (fun h' k q q' e=>by subst e;exact ⟨⟨_,q,rfl,rfl⟩,q'⟩) (.inr trivial)
     exact ⟨a2,a1⟩
end
section
variable {X:Cx}{pins:List (Addr×Obj)}{σ:St}{H:Hp}{s:Shared}{h':Heap}
theorem Inv.turnedL {t':Nat}{ch:List Addr} (I:Inv X pins σ H s) (k:∀ b o,b∉ch->s.heap.get? b=some o->h'.get? b=some o) (hf:∀ b∈ch,FpOk X pins H b) (hL:∀ b∈ch,b≠X.env.locals):Inv X pins σ H { s with heap:=h',toks:=t' }:=by
 have nit:∀ b u,H b=some u->b∉ch:=fun b u e z=>by have:=(hf b z).1;rw [e] at this;cases this
 refine I.step (g':=s.gens) (d':=s.drawn) (ch:=ch) (fun b hb=>?_) (fun b o _ _ hc e _=>k b o hc e) (fun b o _ _ hc e _=>⟨o.slots,k b o hc e⟩) (fun _ _ _ _ n=>n)
  (fun b o hc e=>⟨o,k b o hc e⟩) (fun _ _ e=>e) (fun _ _ _ e=>e) (fun b ps e=>⟨#[],by rw [e];simp⟩) (fun m hm=>?_) (fun b u e=>?_) I.bare
 ·obtain ⟨_,f1,_,f3,f4,f5⟩:=hf b hb
  exact ⟨f3,f1,f4,f5⟩
 ·obtain ⟨o,es,ep,ho,r⟩:=hm
  exact ⟨o,es,ep,k _ o (fun z=>(hL _ z) rfl) ho,r⟩
 ·refine (I.hok b u e).stay (fun c v hc q=>k c v ?_ q) (fun _ q=>q) fun _ _ q=>q
  rcases hc with z | z
  ·rw [z];exact nit b u e
  ·exact nit c _ z
theorem Inv.turnedLay {t':Nat}{ch:List Addr}{p:Addr}{o:HO} (I:Inv X pins σ H s) (k:∀ b o,b∉ch->s.heap.get? b=some o->h'.get? b=some o) (hf:∀ b∈ch,FpOk X pins H b) (hp:s.heap.objs.size≤p) (new:ObjOk X.prog X.w (upd H p o) h' p o):Inv X pins σ (upd H p o) { s with heap:=h',toks:=t' }:=by
 have nit:∀ b u,H b=some u->b∉ch:=fun b u e z=>by have:=(hf b z).1;rw [e] at this;cases this
 have hn:H p=none:=I.hok.fresh hp
 have tr:∀ b u,H b=some u->upd H p o b=some u:=fun b u e=>by rw [upd_ne (ne_of_none e hn)];exact e
 refine I.step (g':=s.gens) (d':=s.drawn) (ch:=ch) (fun b hb=>?_) (fun b o _ _ hc e _=>k b o hc e) (fun b o _ _ hc e _=>⟨o.slots,k b o hc e⟩) (fun b u _ e n=>by rw [upd_ne (Nat.ne_of_lt (Nat.lt_of_lt_of_le (Heap.lt_size e) hp))];exact n)
  (fun b o hc e=>⟨o,k b o hc e⟩) (fun b xs e=>tr b _ e) (fun b _ _ e=>tr b _ e) (fun b ps e=>⟨#[],by rw [tr b _ e];simp⟩) (fun m hm=>?_) (fun b u e=>?_) I.bare
 ·obtain ⟨_,f1,_,f3,f4,f5⟩:=hf b hb
  exact ⟨f3,f1,f4,f5⟩
 ·obtain ⟨o,es,ep,ho,r⟩:=hm
  exact ⟨o,es,ep,k _ o (fun z=>(hf _ z).2.1 rfl) ho,r⟩
 ·by_cases z:b=p
  ·subst z
   rw [upd_same] at e;cases e
   exact new
  ·rw [upd_ne z] at e
   refine (I.hok b u e).stay (fun c v hc q=>k c v ?_ q) (fun c q=>tr c _ q) fun c xs q=>tr c _ q
   rcases hc with y | y
   ·rw [y];exact nit b u e
   ·exact nit c _ y
end
def nG (b:Bool) (K:PySem.W.Frag) (H:Hp) (l:Addr) (xs:List V):Prop:=if b then SqT K H l xs else SqL K H l xs
theorem Inv.seqS {X:Cx}{pins:List (Addr×Obj)}{σ:St}{H:Hp}{s:Shared}{b:Bool}{l:Addr}{xs:List V} (I:Inv X pins σ H s) (h:nG b X.K H l xs):∃ its:List Value,Vals xs its∧fu b s.heap l its.toArray∧xs.length≤sizeLine:=by
 cases b with
 | true=>obtain ⟨its,r,p,z⟩:=I.tuple (show SqT X.K H l xs from h);exact ⟨its,r,p,z⟩
 | false=>obtain ⟨its,r,p,z⟩:=I.list (show SqL X.K H l xs from h);exact ⟨its,r,p.isList,z⟩
theorem Inv.seqS_inj {X:Cx}{pins:List (Addr×Obj)}{σ:St}{H:Hp}{s:Shared}{b:Bool}{l:Addr}{xs ys:List V} (I:Inv X pins σ H s) (h:nG b X.K H l xs) (q:nG b X.K H l ys):xs=ys:=by
 cases b with
 | true=>exact I.tuple_inj (show SqT X.K H l xs from h) q
 | false=>exact I.list_inj (show SqL X.K H l xs from h) q
def fj (b:Bool) (i l:Addr) (k:Nat) (h:Heap):Prop:=if b then IsTupIter h i l k else h.IsListIter i l k
theorem fj.keep {b:Bool}{i l:Addr}{k:Nat}{h h':Heap} (q:fj b i l k h) (kk:∀ o,h.get? i=some o->h'.get? i=some o):fj b i l k h':=by
 cases b with
 | true=>obtain ⟨o,e,r⟩:=(show IsTupIter h i l k from q);exact ⟨o,kk _ e,r⟩
 | false=>obtain ⟨o,e,r⟩:=(show h.IsListIter i l k from q);exact ⟨o,kk _ e,r⟩
theorem fj.obj {b:Bool}{i l:Addr}{k:Nat}{h:Heap} (q:fj b i l k h):∃ o,h.get? i=some o∧∀ v,o.data≠.cell v:=by
 cases b with
 | true=>obtain ⟨o,e,_,d⟩:=(show IsTupIter h i l k from q);exact ⟨o,e,fun v z=>by rw [d] at z;cases z⟩
 | false=>obtain ⟨o,e,_,d⟩:=(show h.IsListIter i l k from q);exact ⟨o,e,fun v z=>by rw [d] at z;cases z⟩
def Fd (K:PySem.W.Frag) (b1 b2:Bool) (l1 l2:Addr):It:=
 ⟨fun i H=>∃ xs ys x y,nG b1 K H l1 xs∧nG b2 K H l2 ys∧xs[i]?=some x∧ys[i]?=some y,
  fun i H v H'=>∃ p,H p=none∧v=.ref p∧∀ xs ys,nG b1 K H l1 xs->nG b2 K H l2 ys->∃ x y,xs[i]?=some x∧ys[i]?=some y∧H'=upd H p (.tup [x,y]),
  fun i H=>∃ xs ys,nG b1 K H l1 xs∧nG b2 K H l2 ys∧(xs[i]?=none∨ys[i]?=none)⟩
theorem nW {P:Program}{w:World}{A:Around}{E:Value->Shared->Prop}{s:Shared}{z TI TO:Addr}{f0:Value}{Q:Option Value->Shared->Prop} (hz:IsZip s.heap z TI TO f0)
  (h:wpAny (model P w) A.in1 (Builtin.«zip.__next__» ⟨[.ref z],[]⟩) (fun fin s'=>∃ v,fin=.done (.ret v)∧Q (some v) s') (fun e s'=>∃ o ea,e=.ref ea∧s'.heap.get? ea=some o∧o.cls=.type "StopIteration"∧Q none s') s):wpAny (model P w) A (pyNext (.ref z)) Q E s:=by
 have hT:s.TypeIs (.ref z) "zip":=⟨_,hz,rfl⟩
 unfold pyNext
 refine wpAny_bind (wpAny_attempt (wpAny_callSpecial?_slot (name:=Str.ofString "__next__") hT F.slot_zip_next (wpAny_call_entry F.slot_zip_next hT F.entry_zip_next (wpAny_mono h (fun fin s' q=>?_) fun e s' q=>?_) (F.args_zip_next_1 _))))
 ·obtain ⟨v,rfl,q⟩:=q
  exact ⟨v,rfl,wpAny_pure q⟩
 ·obtain ⟨o,ea,rfl,ho,hc,q⟩:=q
  exact wpAny_bind (wpAny_isInstance (T := "StopIteration") (b:=true) ⟨o,ho,hc⟩ isSubtype_stop (wpAny_pure q))
theorem zc {P:Program}{w:World}{K:PySem.W.Frag}{elts:List Expr}{x1}{tp:Pos}{b1 b2:Bool}{z TI TO i1 i2 l1 l2:Addr} (D:ZipApart z TI TO i1 i2 l1 l2) :
  Turn P w K (.Tuple elts x1 tp) (Fd K b1 b2 l1 l2) [z,TI,TO,i1,i2] z (fun i h=>IsZip h z TI TO .none∧IsPair h TI (.ref i1) (.ref i2)∧(∃ a b,IsPair h TO a b)∧fj b1 i1 l1 i h∧fj b2 i2 l2 i h) where
 mem:=by simp
 obj:=fun i h st b hb=>by
  obtain ⟨hz,hTI,⟨a,c,hTO⟩,h1,h2⟩:=st
  simp only [List.mem_cons,List.mem_nil_iff,or_false] at hb
  rcases hb with rfl | rfl | rfl | rfl | rfl
  ·exact ⟨_,hz,fun v q=>by cases q⟩
  ·exact ⟨_,hTI,fun v q=>by cases q⟩
  ·exact ⟨_,hTO,fun v q=>by cases q⟩
  ·exact h1.obj
  ·exact h2.obj
 keep:=fun i h h' st k=>by
  obtain ⟨hz,hTI,⟨a,c,hTO⟩,h1,h2⟩:=st
  exact ⟨k z (by simp) _ hz,k TI (by simp) _ hTI,⟨a,c,k TO (by simp) _ hTO⟩,h1.keep fun o q=>k i1 (by simp) o q,h2.keep fun o q=>k i2 (by simp) o q⟩
 item:=by
  intro X hP hw hK hc i pins s σ H E I hf st hg
  subst hP hw hK
  obtain ⟨hz,hTI,⟨a,c,hTO⟩,h1,h2⟩:=st
  obtain ⟨xs,ys,x,y,s1,s2,hx,hy⟩:=hg
  obtain ⟨its1,r1,q1,_⟩:=I.seqS s1
  obtain ⟨its2,r2,q2,_⟩:=I.seqS s2
  obtain ⟨u1,e1,ru1⟩:=r1.get hx
  obtain ⟨u2,e2,ru2⟩:=r2.get hy
  refine nW hz (wpAny_mono (xY D (nu b1 D.l1i1 its1.toArray) (nu b2 D.l2i2 its2.toArray) hz hTI hTO ⟨h1,q1⟩ ⟨h2,q2⟩ (by simpa using e1) (by simpa using e2) (Q:=fun v s'=>∃ h',v=.ref s.heap.objs.size∧s'={ s with heap:=h' }∧IsZip h' z TI TO (rawInt s.heap.objs.size)∧IsPair h' TO u1 u2∧fj b1 i1 l1 (i + 1) h'∧fj b2 i2 l2 (i + 1) h'∧IsPair h' s.heap.objs.size u1 u2∧(∀ c o,c≠z->c≠TO->c≠i1->c≠i2->s.heap.get? c=some o->h'.get? c=some o)) (E:=fun _ _=>False)
   fun h' a1 a2 a3 a4 a5 a6 a7=>⟨h',rfl,rfl,a1,a2,a3.1,a4.1,a5,a7⟩) (fun fin s' q=>?_) fun _ _ q=>q.elim)
  obtain ⟨v,rfl,h',rfl,rfl,a1,a2,a3,a4,a5,a7⟩:=q
  refine ⟨_,rfl,_,rfl,wpAny_letOwnedTupleGo_zip a1 fun h2' hz' hs'=>?_⟩
  have lt:z<s.heap.objs.size:=Heap.lt_size hz
  have kk:∀ b o,b∉[z,TI,TO,i1,i2]->s.heap.get? b=some o->h2'.get? b=some o:=fun b o hb q=>hs'.extBut _ _ (fun e=>hb (by simp [e])) (a7 b o (fun e=>hb (by simp [e])) (fun e=>hb (by simp [e])) (fun e=>hb (by simp [e])) (fun e=>hb (by simp [e])) q)
  have fresh:H s.heap.objs.size=none:=I.hok.fresh (Nat.le_refl _)
  have I1:Inv X pins σ H { s with heap:=h2',toks:=s.toks }:=I.turnedL kk hf (fun b hb=>(hf b hb).2.1)
  have pr:IsPair h2' s.heap.objs.size u1 u2:=hs'.extBut _ _ (Nat.ne_of_gt lt) a5
  have nw:ObjOk X.prog X.w (upd H s.heap.objs.size (.tup [x,y])) h2' s.heap.objs.size (.tup [x,y]):=⟨by show 2≤sizeLine;decide,[u1,u2],.cons ru1 (.cons ru2 .nil),⟨_,pr,rfl,_,rfl⟩⟩
  have nfp:∀ b∈[z,TI,TO,i1,i2],b≠s.heap.objs.size:=fun b hb e=>by
   obtain ⟨o,ho,_⟩:∃ o,s.heap.get? b=some o∧True:=by
    simp only [List.mem_cons,List.mem_nil_iff,or_false] at hb
    rcases hb with rfl | rfl | rfl | rfl | rfl
    ·exact ⟨_,hz,trivial⟩
    ·exact ⟨_,hTI,trivial⟩
    ·exact ⟨_,hTO,trivial⟩
    ·obtain ⟨o,q,_⟩:=h1.obj;exact ⟨o,q,trivial⟩
    ·obtain ⟨o,q,_⟩:=h2.obj;exact ⟨o,q,trivial⟩
   exact absurd (Heap.lt_size ho) (by rw [e];exact Nat.lt_irrefl _)
  refine ⟨.ref s.heap.objs.size,upd H s.heap.objs.size (.tup [x,y]),?_,rfl,⟨_,fresh,rfl,fun xs' ys' q1' q2'=>⟨x,y,by rw [I.seqS_inj q1' s1];exact hx,by rw [I.seqS_inj q2' s2];exact hy,rfl⟩⟩,⟨hz',?_,⟨u1,u2,hs'.extBut _ _ D.TOz a2⟩,a3.keep fun o q=>hs'.extBut _ _ D.i1z q,a4.keep fun o q=>hs'.extBut _ _ D.i2z q⟩,fun b hb=>by rw [upd_ne (nfp b hb)];exact (hf b hb).1⟩
  ·exact I.turnedLay (t':=s.toks) kk hf (Nat.le_refl _) nw
  ·exact hs'.extBut _ _ D.TIz (a7 _ _ D.TIz D.TITO D.TIi1 D.TIi2 hTI)
 done:=by
  intro X hP hw hK hc i pins s σ H E I hf st hg
  subst hP hw hK
  obtain ⟨hz,hTI,⟨a,c,hTO⟩,h1,h2⟩:=st
  obtain ⟨xs,ys,s1,s2,hend⟩:=hg
  obtain ⟨its1,r1,q1,_⟩:=I.seqS s1
  obtain ⟨its2,r2,q2,_⟩:=I.seqS s2
  have hend':its1.toArray[i]?=none∨its2.toArray[i]?=none:=hend.imp (fun q=>by simpa using r1.none_of q) fun q=>by simpa using r2.none_of q
  refine nW hz (zg (show X.A.in1.handled=none from I.ok.hd hc) D (nu b1 D.l1i1 its1.toArray) (nu b2 D.l2i2 its2.toArray) hz hTI hTO ⟨h1,q1⟩ ⟨h2,q2⟩ hend' fun h' e kk he=>?_)
  obtain ⟨o,ho,hco⟩:=he
  exact ⟨o,e,rfl,ho,hco,rfl,I.turnedL (t':=s.toks) (fun b o hb q=>kk b o (fun e=>hb (by simp [e])) (fun e=>hb (by simp [e])) (fun e=>hb (by simp [e])) (fun e=>hb (by simp [e])) q) hf (fun b hb=>(hf b hb).2.1)⟩
 self:=fun _ _ _ _ _ st h=>wpAny_pyIter_zip st.1 h
theorem vq:bootBuiltins "list"=some (.type "list"):=by decide +kernel
theorem qX:∀ (vs:List Value) (k:Nat),(∀ (j:Nat) v,vs[j]?=some v->∃ t,v=.int ((k + j:Nat):Int) t)->Vals ((List.range' k vs.length).map fun i:Nat=>V.int (i:Int)) vs
 | [],k,_=>.nil
 | v::vs,k,h=>by
   have h0:=h 0 v rfl
   have ih:=qX vs (k + 1) fun j u e=>by
    have:=h (j + 1) u (by simpa using e)
    rw [show k + 1 + j=k + (j + 1) by omega];exact this
   rw [List.length_cons,List.range'_succ,List.map_cons]
   exact .cons h0 ih
section
variable {X:Cx}
def Ey (ta:TA):TE:=fun σ H Q=>ta σ H fun vs H1=>∃ j:Int,vs=[.int j]∧j≤2 ^ 20∧-(2 ^ 62)≤j∧∀ l,H1 l=none->Q (.ref l) (upd H1 l (.lst ((List.range j.toNat).map fun i:Nat=>V.int (i:Int))))
theorem xx {a:Expr}{ta:TA}{p1 p2 pos1 pos2:Pos} (hc:X.calm=true) (hgL:Gl X "list") (hmL:X.mg "list"=none) (hg:Gl X "range") (hm:X.mg "range"=none) (ha:PA X [a] ta) (hs:notStar a=true:=by rfl) :
  PE X (.Call (.Name "list" p1) [.Call (.Name "range" p2) [a] [] pos2] [] pos1) (Ey ta):=by
 intro pins s σ H Q I h
 have hst:starEach [Expr.Call (.Name "range" p2) [a] [] pos2] X.env=(false,eval (.Call (.Name "range" p2) [a] [] pos2) X.env)::starEach [] X.env:=bF rfl
 refine Call_ (ld_blt I hgL hmL vq (PyProof.Rows.callWith_type1 ?_ hst rfl))
 rw [hst]
 show wpAny _ _ (spliced ((false,eval (.Call (.Name "range" p2) [a] [] pos2) X.env)::[])) _ _ s
 refine Calls.spliced_cons ?_
 refine Call_ (ld_blt I hg hm boot_range (PyProof.Rows.callWith_type1 (thn (ha pos2 pins s σ H _ I h) fun us s1 ⟨vs,H1,I1,r1,q1⟩=>?_) (bF hs) rfl))
 obtain ⟨j,e,q1,q2,q⟩:=q1
 subst e
 cases r1 with
 | cons r rr=>
   cases rr
   obtain ⟨t,rfl⟩:=r
   refine call_range_1 ?_
   refine Calls.spliced_nil ?_
   have rs:Builtin.Range.rangeSize 0 j 1=((j.toNat:Nat):Int):=by rw [rangeSize_one];split<;>omega
   refine call_list_range (n:=j.toNat) (I1.ok.hd hc) (IsRange.new ..) (small_one (by omega) (by omega) q2 (by omega)) rs (by omega) fun h' tk acc c k1 k2 k3=>?_
   have vl:Vals ((List.range j.toNat).map fun i:Nat=>V.int (i:Int)) acc.toList:=by
    have:=qX acc.toList 0 fun i v e=>by
     obtain ⟨t,rfl⟩:=k3.2 i v (by simpa using e)
     exact ⟨t,by congr 1;omega⟩
    rw [List.range_eq_range']
    rw [show acc.toList.length=j.toNat by simpa using k3.1] at this
    exact this
   refine ⟨.ref _,upd H1 _ (.lst ((List.range j.toNat).map fun i:Nat=>V.int (i:Int))),?_,rfl,q _ (I1.hok.fresh ?_)⟩
   ·refine I1.turnedLay (ch:=[]) (t':=tk) (fun b o _ e=>k1 b o (Heap.get?_push_of_some _ e)) (fun b hb=>nomatch hb) ?_ ⟨?_,acc.toList,c,vl,k2⟩
    ·rw [Heap.size_push];omega
    ·rw [List.length_map,List.length_range];show _≤2 ^ 24;omega
   ·rw [Heap.size_push];omega
end
end L2
namespace L2
open PySem PySem.Spec PyProof.Rows
open PySem.AutoSeq1 (wpAny_loadPart')
open PySem PySem.Spec PyProof.Rows
end L2
namespace LS
open PySem
def lU (xs:Array Nat):Prop:=xs.toList.Pairwise (·< ·)
theorem lU.lt {xs:Array Nat} (h:lU xs) {a b:Nat} (hab:a<b) (hb:b<xs.size):xs[a]<xs[b]:=by
 have:=List.pairwise_iff_getElem.mp h a b (by simpa using Nat.lt_trans hab hb) (by simpa using hb) hab
 simpa using this
structure Bel (xs:Array Nat) (j r:Nat):Prop where
 le:r≤xs.size
 lo:∀ k (hk:k<xs.size),k<r->xs[k]<j
 hi:∀ k (hk:k<xs.size),r≤k->j≤xs[k]
theorem oA {xs:Array Nat}{j:Nat} (h:lU xs):∀ (fuel lo hi:Nat),hi - lo≤fuel->lo≤hi->hi≤xs.size->(∀ k (hk:k<xs.size),k<lo->xs[k]<j)->(∀ k (hk:k<xs.size),hi≤k->j≤xs[k])->Bel xs j (SetTable.below.go xs j fuel lo hi)
 | 0,lo,hi,hf,hl,hs,h1,h2=>by
   unfold SetTable.below.go
   have:lo=hi:=by omega
   subst this
   exact ⟨hs,h1,h2⟩
 | fuel + 1,lo,hi,hf,hl,hs,h1,h2=>by
   unfold SetTable.below.go
   by_cases c:lo<hi
   ·rw [if_pos c]
    dsimp only
    have hm:(lo + hi) / 2<hi:=by omega
    have hm':lo≤(lo + hi) / 2:=by omega
    generalize (lo + hi) / 2=mid at hm hm'
    have hms:mid<xs.size:=by omega
    have e:xs.getD mid j=xs[mid]:=by rw [Array.getD_eq_getD_getElem?,Array.getElem?_eq_getElem hms];rfl
    rw [e]
    by_cases c2:xs[mid]<j
    ·rw [if_pos c2]
     refine oA h fuel (mid + 1) hi (by omega) (by omega) hs (fun k hk hkm=>?_) h2
     by_cases q:k=mid
     ·subst q;exact c2
     ·have:=h.lt (show k<mid by omega) hms;omega
    ·rw [if_neg c2]
     refine oA h fuel lo mid (by omega) hm' (by omega) h1 (fun k hk hkm=>?_)
     by_cases q:k=mid
     ·subst q;omega
     ·have:=h.lt (show mid<k by omega) hk;omega
   ·rw [if_neg c]
    have:lo=hi:=by omega
    subst this
    exact ⟨hs,h1,h2⟩
theorem qH {xs:Array Nat} (h:lU xs) (j:Nat):Bel xs j (SetTable.below xs j):=by
 unfold SetTable.below
 exact oA h xs.size 0 xs.size (by omega) (by omega) (Nat.le_refl _) (fun k hk z=>by omega) (fun k hk z=>by omega)
theorem below_at {xs:Array Nat} (h:lU xs) {i:Nat} (hi:i<xs.size):SetTable.below xs xs[i]=i:=by
 have b:=qH h xs[i]
 generalize SetTable.below xs xs[i]=r at b
 rcases Nat.lt_trichotomy r i with c | c | c
 ·have:=b.hi r (by omega) (Nat.le_refl _)
  have:=h.lt c hi
  omega
 ·exact c
 ·have:=b.lo i hi c
  omega
theorem vD {xs:Array Nat} (h:lU xs) {j:Nat} (hj:j∉xs.toList):lU (SetTable.insertAt xs (SetTable.below xs j) j):=by
 have b:=qH h j
 unfold lU
 rw [SetTable.toList_insertAt]
 generalize SetTable.below xs j=r at b
 have h':(xs.toList.take r++xs.toList.drop r).Pairwise (·< ·):=by rw [List.take_append_drop];exact h
 rw [List.pairwise_append] at h' ⊢
 refine ⟨h'.1,List.pairwise_cons.mpr ⟨fun x hx=>?_,h'.2.1⟩,fun x hx y hy=>?_⟩
 ·obtain ⟨k,hk,rfl⟩:=List.mem_iff_getElem.mp hx
  rw [List.length_drop,Array.length_toList] at hk
  rw [List.getElem_drop]
  have:=b.hi (r + k) (by omega) (by omega)
  have ne:xs.toList[r + k]'(by simp;omega)≠j:=fun z=>hj (z ▸ List.getElem_mem _)
  simp at this ne ⊢
  omega
 ·have lt:x<j:=by
   obtain ⟨k,hk,rfl⟩:=List.mem_iff_getElem.mp hx
   rw [List.length_take,Array.length_toList] at hk
   rw [List.getElem_take]
   have:=b.lo k (by omega) (by omega)
   simpa using this
  rcases List.mem_cons.mp hy with rfl | hy
  ·exact lt
  ·exact h'.2.2 x hx y hy
structure TI (L:Bool) (t:SetTable):Prop where
 ris:lU t.place
 dum:t.dummies=#[]
 led:t.led=L
theorem TI.standIn {L:Bool}{t:SetTable} (h:TI L t) (n:Nat):TI L (t.standIn n):=⟨by
 unfold lU SetTable.standIn
 rw [show (Array.range n).toList=List.range n by simp]
 exact List.pairwise_lt_range,rfl,h.led⟩
theorem TI.orStandIn {L:Bool}{t:SetTable} (h:TI L t) (n:Nat):TI L (t.orStandIn n):=by
 unfold SetTable.orStandIn
 split
 ·exact h
 ·exact h.standIn n
theorem vW {L:Bool}{t:SetTable} (h:TI L t) {j:Nat} (e:t.slot j=.empty):j∉t.place.toList:=fun hj=>by
 obtain ⟨k,hk,rfl⟩:=List.mem_iff_getElem.mp hj
 have hk':k<t.place.size:=by simpa using hk
 have b:=below_at h.ris hk'
 unfold SetTable.slot at e
 simp only [Array.getElem_toList] at e
 rw [b] at e
 simp [Array.getElem?_eq_getElem hk'] at e
theorem vV {L:Bool}{t:SetTable} (h:TI L t) (j:Nat):t.slot j≠.dummy:=fun e=>by
 unfold SetTable.slot SetTable.has at e
 rw [h.dum] at e
 dsimp only at e
 split at e
 ·cases e
 ·simp at e
theorem nU {L:Bool}{t:SetTable} (ti:TI L t) {ha:Nat->Int}{h:Int}{j:Nat}{d:Option Nat}:∀ (fuel:Nat) (p:SetTable.Probe),p.dummy=none->SetTable.probe.go t ha h fuel p=some (.empty j d)->t.slot j=.empty∧d=none
 | 0,p,_,e=>by unfold SetTable.probe.go at e;cases e
 | fuel + 1,p,hp,e=>by
   unfold SetTable.probe.go at e
   split at e
   ·rename_i hs
    cases e
    exact ⟨hs,hp⟩
   ·rename_i hs
    exact absurd hs (vV ti _)
   ·split at e
    ·cases e
    ·refine nU ti fuel _ ?_ e
     unfold SetTable.advance
     split<;>exact hp
theorem wY {L:Bool}{t:SetTable} (h:TI L t) (es:Array (Int×Value)) (hs:Int) (x:Value):TI L (layNew t es hs x).2.1:=by
 unfold layNew
 split
 ·rename_i slot wd e
  unfold SetTable.freeSlot SetTable.probe at e
  split at e
  ·rename_i j d em
   obtain ⟨h1,h2⟩:=nU h _ _ rfl em
   subst h2
   cases e
   dsimp only
   refine TI.orStandIn (t:=(t.put (none.getD j)).1) (TI.mk ?_ ?_ h.led) _
   ·exact vD h.ris (vW h h1)
   ·show (if SetTable.has t.dummies _ then _ else _)=_
    rw [h.dum]
    split
    ·rename_i c
     unfold SetTable.has at c
     simp at c
    ·rfl
  ·cases e
 ·exact h.standIn _
theorem Ab {L:Bool}{mask finger moves:Nat}{plain:Bool}{hs:Array Int}{r:SetTable×Array Nat} (e:SetTable.laid mask finger moves L plain hs=some r):TI L r.1:=by
 unfold SetTable.laid at e
 obtain ⟨owner,_,e2⟩:=Option.bind_eq_some_iff.mp e
 cases e2
 refine ⟨?_,rfl,rfl⟩
 unfold lU
 dsimp only
 rw [List.pairwise_map]
 refine List.Pairwise.filterMap (R:=fun (a b:Nat)=>a<b) _ (fun a b hab x hx y hy=>?_) List.pairwise_lt_range
 obtain ⟨_,_,rfl⟩:=Option.map_eq_some_iff.mp hx
 obtain ⟨_,_,rfl⟩:=Option.map_eq_some_iff.mp hy
 exact hab
theorem yW {L:Bool}{t:SetTable} (h:TI L t) (es:Array (Int×Value)) (n:Nat):TI L (relayAll t es n).2.1:=by
 unfold relayAll
 split
 ·rename_i t' order e
  dsimp only
  split
  ·unfold SetTable.relaid at e
   rw [h.led] at e
   exact Ab e
  ·exact h.standIn _
 ·exact h.standIn _
end LS
namespace LS
open PySem PySem.Spec PyProof.Rows
def vInt:Value->Int
 | .int i _=>i
 | _=>0
def gQ (l:List (Int×Value)):List Int:=l.map fun e=>vInt e.2
abbrev pZ (es:Array (Int×Value)) (ep:Nat) (t:SetTable):Obj:={ cls:=.type "set",dict:=none,data:=.set es ep t }
structure SetG (prog:Program) (w:World) (L:Bool) (h:Heap) (a:Addr) (ks:List Int):Prop where
 ex:∃ es ep t,h.get? a=some (pZ es ep t)∧ElemsOf (intKind prog w) es.toList∧(gQ es.toList).Perm ks∧t.fits es.size=true∧TI L t∧es.size<scanBound
theorem wV {prog:Program}{w:World}{k:Int}{v:Value} (h:(intKind prog w).is k v=true):∃ t,v=.int k t:=by
 have h':Value.isInt k v=true:=h
 cases v<;>simp [Value.isInt] at h'
 subst h'
 exact ⟨_,rfl⟩
theorem sX {prog:Program}{w:World}{l:List (Int×Value)} (h:ElemsOf (intKind prog w) l) {e:Int×Value} (he:e∈l):∃ t,e.2=.int (vInt e.2) t:=by
 obtain ⟨⟨k,hk,_⟩,_⟩:=h e he
 obtain ⟨t,q⟩:=wV hk
 rw [q]
 exact ⟨t,rfl⟩
theorem find_key {prog:Program}{w:World}{l:List (Int×Value)} (h:ElemsOf (intKind prog w) l) (k:Int):(l.findIdx? fun e=>(intKind prog w).is k e.2).isSome=decide (k∈gQ l):=by
 rw [Bool.eq_iff_iff,decide_eq_true_eq,List.findIdx?_isSome,List.any_eq_true]
 unfold gQ
 rw [List.mem_map]
 constructor
 ·rintro ⟨e,he,q⟩
  obtain ⟨t,e2⟩:=wV q
  exact ⟨e,he,by rw [e2];rfl⟩
 ·rintro ⟨e,he,rfl⟩
  obtain ⟨t,q⟩:=sX h he
  refine ⟨e,he,?_⟩
  rw [q]
  exact intKind_is _ _ _ _
section
variable {prog:Program}{w:World}{A:Around}{E:Value->Shared->Prop}{s:Shared}{L:Bool}
theorem u9 {h:Heap}{a:Addr}{es es1:Array (Int×Value)}{ep:Nat}{t t1:SetTable} (ho:h.get? a=some (pZ es ep t)):(h.update a (Obj.putSet es1 t1)).get? a=some (pZ es1 (ep + 1) t1):=by
 have q:=Heap.get?_update_self (Obj.putSet es1 t1) ho (by rw [putSet_of es1 t1 rfl];rfl)
 rw [putSet_of es1 t1 rfl] at q
 exact q
theorem xT {g:Bool->Sem Unit} (hg:∀ (b:Bool) (s1:Shared) (R:Unit->Shared->Prop),R () s1->wpAny (model prog w) A (g b) R E s1) {a:Addr}{es es1:Array (Int×Value)}{ep:Nat}{t t2:SetTable}{ks:List Int}{wd:Bool}
  (ho:s.heap.get? a=some (pZ es ep t)) (hel:ElemsOf (intKind prog w) es1.toList) (hp:(gQ es1.toList).Perm ks) (hb:es1.size<scanBound) (hf:t2.fits es1.size=true) (ti:TI L t2) {R:Option Bool->Shared->Prop}
  (h:∀ h',Heap.SameBut a s.heap h'->SetG prog w L h' a ks->R (some true) { s with heap:=h' }) :
  wpAny (model prog w) A (do
    storeSet a es1 t2
    if (!wd && t2.tooFull)=true then do
        g (relayAll t2 es1 (SetTable.grown es1.size)).2.2
        storeSet a (relayAll t2 es1 (SetTable.grown es1.size)).1 (relayAll t2 es1 (SetTable.grown es1.size)).2.1
        pure (some true)
     else pure (some true)) R E s:=by
 refine wpAny_bind (wpAny_storeSet_of ho rfl ?_ (fits_of_scanBound hb))
 have o1:=u9 (es1:=es1) (t1:=t2) ho
 have b1:=Heap.SameBut.update s.heap a (Obj.putSet es1 t2)
 split
 ·have p2:=relayAll_perm t2 es1 (SetTable.grown es1.size)
  have f2:=relayAll_fits t2 es1 (SetTable.grown es1.size)
  have ti2:=yW ti es1 (SetTable.grown es1.size)
  revert p2 f2 ti2
  generalize relayAll t2 es1 (SetTable.grown es1.size)=Z
  obtain ⟨es2,t3,gv⟩:=Z
  dsimp only
  intro p2 f2 ti2
  have sz:es2.size=es1.size:=by rw [←Array.length_toList,p2.length_eq,Array.length_toList]
  refine wpAny_bind (hg _ _ _ (wpAny_bind (wpAny_storeSet_of o1 rfl ?_ (fits_of_scanBound (by rw [sz];exact hb)))))
  refine wpAny_pure (h _ (b1.trans (Heap.SameBut.update _ a _)) ⟨es2,_,t3,u9 o1,hel.perm p2,(p2.map _).trans hp,f2,ti2,by rw [sz];exact hb⟩)
 ·exact wpAny_pure (h _ b1 ⟨es1,_,t2,o1,hel,hp,hf,ti,hb⟩)
theorem add_int {a:Addr}{k:Int}{tk:Tok}{ks:List Int}{Q:Bool->Shared->Prop} (hS:SetG prog w L s.heap a ks) (room:ks.length + 1<scanBound)
  (h:∀ h' b,Heap.SameBut a s.heap h'->SetG prog w L h' a (if k∈ks then ks else ks++[k])->Q b { s with heap:=h' }):wpAny (model prog w) A (setAddHashed a (.int k tk) ((intKind prog w).hash k)) Q E s:=by
 obtain ⟨es,ep,t,ho,hel,hp,hf,ti,hb⟩:=hS.ex
 have kk:(intKind prog w).is k (.int k tk)=true:=intKind_is _ _ _ _
 have len:es.size=ks.length:=by
  have:=hp.length_eq
  unfold gQ at this
  rw [List.length_map,Array.length_toList] at this
  exact this
 unfold setAddHashed setAddHashedIn
 refine wpAny_holding (wpAny_bind (wpAny_setState_of ho rfl hf ?_))
 dsimp only
 rw [byScan_of (knd:=intKind prog w) (x:=.int k tk) rfl hb hel,if_pos rfl]
 unfold setAddByScan
 refine wpAny_bind (wpAny_bind (wpAny_rule (wpAny_bind (wpAny_setScan_of kk ho rfl hf hel ?_))))
 have fk:=find_key hel k
 have mk:k∈gQ es.toList ↔ k∈ks:=hp.mem_iff
 cases hr:List.findIdx? (fun e=>(intKind prog w).is k e.2) es.toList with
 | some j=>
   rw [hr] at fk
   have hk:k∈ks:=mk.mp (of_decide_eq_true fk.symm)
   have q:=h s.heap false (Heap.SameBut.refl a s.heap) (by rw [if_pos hk];exact hS)
   have e:s={ s with heap:=s.heap }:=by cases s;rfl
   rw [e]
   exact wpAny_pure (wpAny_pure q)
 | none=>
   rw [hr] at fk
   have hk:k∉ks:=fun z=>by
    have:=of_decide_eq_false fk.symm
    exact this (mk.mpr z)
   rw [if_neg hk] at h
   dsimp only
   have p1:=layNew_perm t es ((intKind prog w).hash k) (.int k tk)
   have f1:=layNew_fits t es ((intKind prog w).hash k) (.int k tk)
   have ti1:=wY ti es ((intKind prog w).hash k) (.int k tk)
   revert p1 f1 ti1
   generalize layNew t es ((intKind prog w).hash k) (.int k tk)=Z
   obtain ⟨es1,t1,wd,gv⟩:=Z
   dsimp only
   intro p1 f1 ti1
   rw [Array.toList_push] at p1
   have el1:ElemsOf (intKind prog w) es1.toList:=(hel.push kk rfl).perm p1
   have pk:(gQ es1.toList).Perm (ks++[k]):=by
    refine (p1.map _).trans ?_
    rw [List.map_append]
    exact hp.append_right _
   have b1:es1.size<scanBound:=by rw [←Array.length_toList,p1.length_eq,List.length_append,Array.length_toList,len];exact room
   have gw:∀ (b:Bool) (s1:Shared) (R:Unit->Shared->Prop),R () s1->wpAny (model prog w) A (match b with | true=>rule "set.scan.the-table-gave-way" | false=>pure ()) R E s1:=fun b s1 R hq=>by
    cases b
    ·exact wpAny_pure hq
    ·exact wpAny_rule hq
   refine wpAny_bind (gw gv _ _ ?_)
   split
   ·refine wpAny_bind ?_
    rw [hashByValue_scannable 8 (x:=.int k tk) rfl]
    refine wpAny_pure ?_
    simp only [plainKind,↓reduceIte]
    refine xT ?_ ho el1 pk b1 f1 ti1 ?_
    ·intro b s1 R hq
     cases b
     ·exact wpAny_pure hq
     ·exact wpAny_rule hq
    ·intro h' sb g
     exact wpAny_pure (h h' true sb g)
   ·refine wpAny_bind (wpAny_pure ?_)
    simp only [↓reduceIte]
    refine xT ?_ ho el1 pk b1 f1 ti1 ?_
    ·intro b s1 R hq
     cases b
     ·exact wpAny_pure hq
     ·exact wpAny_rule hq
    ·intro h' sb g
     exact wpAny_pure (h h' true sb g)
end
theorem SetG.at {prog:Program}{w:World}{L:Bool}{h h':Heap}{a:Addr}{ks:List Int} (g:SetG prog w L h a ks) (k:∀ o,h.get? a=some o->h'.get? a=some o):SetG prog w L h' a ks:=by
 obtain ⟨es,ep,t,ho,r⟩:=g.ex
 exact ⟨es,ep,t,k _ ho,r⟩
theorem za (ks:List Int) (k:Int):(if k∈ks then ks else ks++[k])=step_dedup ks k:=by
 unfold step_dedup
 by_cases h:k∈ks
 ·rw [if_pos h,if_pos (List.any_eq_true.mpr ⟨k,h,by simp⟩)]
 ·rw [if_neg h,if_neg (fun z=>by
   obtain ⟨x,hx,e⟩:=List.any_eq_true.mp z
   exact h (by rw [←beq_iff_eq.mp e];exact hx))]
section
variable {prog:Program}{w:World}{A:Around}{R:Result->Shared->Prop}{I:Addr}{fp wr:List Addr}{G:Array GenState->Array GenState->Prop}{n:Nat}{P:Nat->Value->Prop}{St:Nat->Shared->Prop}{L:Bool}
theorem kJ (W:WalksS prog w A.in1 I fp wr G n P St) (S:Addr) (hSf:S∉fp) (val:Nat->Int) (hval:∀ i v,P i v->∃ t,v=.int (val i) t) (hb:n + 1<scanBound):∀ (k i:Nat) (s:Shared),n - i=k->i≤n->St i s->SetG prog w L s.heap S (firstMet val i)->
  (∀ s',Moved (S::wr) G s s'->SetG prog w L s'.heap S (firstMet val n)->R (.ok (.ret .none)) s')->codeAny (model prog w) A (.builtin "set.update.loop" ⟨[.ref S,.ref I],[]⟩) R s:=by
 have nw:S∉wr:=fun h=>hSf (W.sub _ h)
 have sub:∀ b∈wr,b∈S::wr:=fun b hb=>.tail _ hb
 intro k
 induction k with
 | zero=>
   intro i s hk hi hst g hR
   obtain rfl:i=n:=by omega
   refine codeAny_builtin PyProof.Rows.F.entry_set_update_loop ?_
   rw [Around.under_plainId PyProof.Rows.F.plain_set_update_loop _]
   refine wpAny_bind (m:=pyNext (.ref I)) (W.done s _ _ hst fun s' hm=>?_)
   exact wpAny_pure (hR s' (hm.mono sub) (g.at fun o e=>hm.heap S _ nw e))
 | succ k ih=>
   intro i s hk hi hst g hR
   have lt:i<n:=by omega
   refine codeAny_builtin PyProof.Rows.F.entry_set_update_loop ?_
   rw [Around.under_plainId PyProof.Rows.F.plain_set_update_loop _]
   refine wpAny_bind (m:=pyNext (.ref I)) (W.item i s _ _ lt hst fun v s' hP hst' hm=>?_)
   obtain ⟨t,rfl⟩:=hval i v hP
   have g':=g.at (h':=s'.heap) fun o e=>hm.heap S _ nw e
   refine wpAny_bind (m:=holding [Value.int (val i) t] (setAdd S (.int (val i) t))) (wpAny_holding ?_)
   unfold setAdd
   refine wpAny_holding (wpAny_bind ((intKind prog w).pyHash (k:=val i) (intKind_is _ _ _ _) ?_))
   have room:(firstMet val i).length + 1<scanBound:=by have:=firstMet_length_le val i;omega
   refine add_int (s:={ s' with toks:=s'.toks + 1 }) g' room fun h' b sb g2=>?_
   rw [za,←firstMet_succ] at g2
   refine wpAny_pure ⟨plainId_quiet PyProof.Rows.F.plain_set_update_loop _,ih (i + 1) _ (by omega) lt (W.frame _ s' _ _ hst' (Nat.le_succ _) fun c hc o e=>?_) g2 fun s2 hm2 g3=>?_⟩
   ·rw [sb.2 c (fun z=>hSf (z ▸ hc))];exact e
   ·refine hR s2 (Moved.trans W.gtrans ((hm.mono sub).then_heap (Nat.le_succ _) fun c o hc e=>?_) hm2) g3
    rw [sb.2 c (fun z=>hc (z ▸ List.mem_cons_self))];exact e
end
theorem ints_of {prog:Program}{w:World}:∀ {l:List (Int×Value)},ElemsOf (intKind prog w) l->IntsAre (l.map (·.2)) (gQ l)
 | [],_=>.nil
 | e::l,h=>by
   obtain ⟨t,q⟩:=sX h (List.mem_cons_self (a:=e) (l:=l))
   show IntsAre (e.2::l.map (·.2)) (vInt e.2::gQ l)
   have ih:=ints_of (prog:=prog) (w:=w) (l:=l) fun x hx=>h x (.tail _ hx)
   rw [q]
   exact .cons _ _ ih
end LS
namespace L2
open PySem PySem.Spec PyProof.Rows LS
end L2
namespace LB
open PySem PySem.W PyProof.Rows
def aK {α:Type} (o:Nat->Nat->Bool):KasT α->α
 | .ret a=>a
 | .ask i j k=>aK o (k (o i j))
theorem eY {α β:Type}{o:Nat->Nat->Bool}{f:α->KasT β}:∀ (t:KasT α),aK o (t.bind f)=aK o (f (aK o t))
 | .ret _=>rfl
 | .ask i j k=>eY (k (o i j))
structure Ord (K:Type) where
 le:K->K->Prop
 dec:∀ a b,Decidable (le a b)
 rfl:∀ a,le a a
 trans:∀ {a b c},le a b->le b c->le a c
 tot:∀ a b,le a b∨le b a
section
variable {K:Type} (R:Ord K) (v:Nat->K)
def ans (i j:Nat):Bool:=!(R.dec (v j) (v i)).decide
def V (p:Array Nat) (i:Nat):K:=v (p.getD i 0)
def SU (p:Array Nat) (n:Nat):Prop:=∀ i j,i≤j->j<n->R.le (V v p i) (V v p j)
def DU (p:Array Nat) (n:Nat):Prop:=∀ i j,i≤j->j<n->R.le (V v p j) (V v p i)
variable {R v}{p:Array Nat}
theorem rA {i j:Nat} (h:ans R v i j=true):R.le (v i) (v j):=by
 have n:¬ R.le (v j) (v i):=by simpa [ans] using h
 exact (R.tot _ _).resolve_right n
theorem o4 {i j:Nat} (h:¬ ans R v i j=true):R.le (v j) (v i):=by simpa [ans] using h
theorem jC {p q:Array Nat}{i j:Nat} (h:p[i]?=q[j]?):p.getD i 0=q.getD j 0:=by
 rw [Array.getD_eq_getD_getElem?,Array.getD_eq_getD_getElem?,h]
theorem gO {i j:Nat} (hj:j≤p.size) (k:Nat):V v (kas_rev p i j) k=if i≤k∧k<j then V v p (i + j - 1 - k) else V v p k:=by
 have h:=getElem?_mirror_all (i:=i) hj k
 unfold V kas_rev
 split
 ·rename_i c;rw [if_pos c] at h;rw [jC h]
 ·rename_i c;rw [if_neg c] at h;rw [jC h]
theorem zr {s d:Nat} (hs:s<p.size) (hd:d≤s) (k:Nat):V v (bubble p s d) k=if k=s - d then V v p s else if s - d<k∧k≤s then V v p (k - 1) else V v p k:=by
 have h:=getElem?_bubble hs d hd k
 by_cases c:k=s - d
 ·rw [if_pos c] at h ⊢;exact congrArg v (jC h)
 ·rw [if_neg c] at h ⊢
  by_cases c2:s - d<k∧k≤s
  ·rw [if_pos c2] at h ⊢;exact congrArg v (jC h)
  ·rw [if_neg c2] at h ⊢;exact congrArg v (jC h)
theorem oV (i j:Nat):(kas_rev p i j).Perm p:=mirror_perm _ _ _ _
theorem SU.up {n:Nat} (h:SU R v p n) (h1:1≤n) (q:R.le (V v p (n - 1)) (V v p n)):SU R v p (n + 1):=fun i j hij hj=>by
 by_cases c:j<n
 ·exact h i j hij c
 ·obtain rfl:j=n:=by omega
  by_cases d:i=j
  ·subst d;exact R.rfl _
  ·exact R.trans (h i (j - 1) (by omega) (by omega)) q
theorem DU.up {n:Nat} (h:DU R v p n) (h1:1≤n) (q:R.le (V v p n) (V v p (n - 1))):DU R v p (n + 1):=fun i j hij hj=>by
 by_cases c:j<n
 ·exact h i j hij c
 ·obtain rfl:j=n:=by omega
  by_cases d:i=j
  ·subst d;exact R.rfl _
  ·exact R.trans q (h i (j - 1) (by omega) (by omega))
theorem sH:∀ (f n:Nat),1≤n->SU R v p n->SU R v p (aK (ans R v) (kas_asc p f n))∧n≤aK (ans R v) (kas_asc p f n)∧aK (ans R v) (kas_asc p f n)≤n + f∧(aK (ans R v) (kas_asc p f n)<n + f->R.le (V v p (aK (ans R v) (kas_asc p f n))) (V v p (aK (ans R v) (kas_asc p f n) - 1)))
 | 0,n,_,h=>⟨h,Nat.le_refl _,Nat.le_refl _,fun z=>absurd z (Nat.lt_irrefl _)⟩
 | f + 1,n,h1,h=>by
   by_cases c:ans R v (p.getD n 0) (p.getD (n - 1) 0)=true
   ·have e:aK (ans R v) (kas_asc p (f + 1) n)=n:=by
     show aK (ans R v) (if ans R v (p.getD n 0) (p.getD (n - 1) 0)=true then .ret n else _)=n
     rw [if_pos c];rfl
    rw [e]
    exact ⟨h,Nat.le_refl _,by omega,fun _=>rA c⟩
   ·have e:aK (ans R v) (kas_asc p (f + 1) n)=aK (ans R v) (kas_asc p f (n + 1)):=by
     show aK (ans R v) (if ans R v (p.getD n 0) (p.getD (n - 1) 0)=true then .ret n else _)=_
     rw [if_neg c]
    rw [e]
    obtain ⟨a,b,d,g⟩:=sH f (n + 1) (by omega) (h.up h1 (o4 c))
    exact ⟨a,by omega,by omega,fun z=>g (by omega)⟩
structure De (R:Ord K) (v:Nat->K) (p₀ p:Array Nat) (n q:Nat):Prop where
 du:DU R v p n
 pm:p.Perm p₀
 le:q + 1≤n
 eq:∀ k,n - (q + 1)≤k->k<n->R.le (V v p k) (V v p (n - 1))∧R.le (V v p (n - 1)) (V v p k)
theorem De.rev {p₀:Array Nat}{n q:Nat} (h:De R v p₀ p n q) (hn:n≤p₀.size):DU R v (kas_rev p (n - (q + 1)) n) n∧(kas_rev p (n - (q + 1)) n).Perm p₀:=by
 refine ⟨fun i j hij hj=>?_,(oV _ _).trans h.pm⟩
 have hn':n≤p.size:=by rw [h.pm.size_eq];exact hn
 have:=h.le
 rw [gO hn',gO hn']
 by_cases a:n - (q + 1)≤i∧i<n
 ·rw [if_pos a,if_pos (by omega)]
  exact R.trans (h.eq _ (by omega) (by omega)).1 (h.eq _ (by omega) (by omega)).2
 ·rw [if_neg a]
  by_cases b:n - (q + 1)≤j∧j<n
  ·rw [if_pos b];exact h.du _ _ (by omega) (by omega)
  ·rw [if_neg b];exact h.du _ _ hij hj
theorem De.zero {p₀:Array Nat}{n:Nat} (a:DU R v p n) (b:p.Perm p₀) (c:1≤n):De R v p₀ p n 0:=⟨a,b,c,fun k h1 h2=>by
 obtain rfl:k=n - 1:=by omega
 exact ⟨R.rfl _,R.rfl _⟩⟩
theorem yM {p₀:Array Nat}{n q:Nat} (h:De R v p₀ p n q) (hn:n≤p₀.size):R.le (V v p (n - 1)) (V v (kas_rev p (n - (q + 1)) n) (n - 1)):=by
 have hn':n≤p.size:=by rw [h.pm.size_eq];exact hn
 have:=h.le
 rw [gO hn',if_pos (by omega)]
 exact (h.eq _ (by omega) (by omega)).2
theorem qF {i j k:Nat} (hj:j≤p.size) (hk:j≤k):V v (kas_rev p i j) k=V v p k:=by rw [gO hj,if_neg (by omega)]
theorem m5 {p₀:Array Nat}:∀ (f:Nat) (p:Array Nat) (n q:Nat),n + f≤p₀.size->De R v p₀ p n q->∃ p' n' q',aK (ans R v) (kas_desc f p n q)=(p',n',q')∧n≤n'∧n'≤n + f∧De R v p₀ p' n' q'
 | 0,p,n,q,_,h=>⟨p,n,q,rfl,Nat.le_refl _,Nat.le_refl _,h⟩
 | f + 1,p,n,q,hs,h=>by
   have h1:=h.le
   by_cases c:ans R v (p.getD n 0) (p.getD (n - 1) 0)=true
   ·by_cases hq:q > 0
    ·have e:aK (ans R v) (kas_desc (f + 1) p n q)=aK (ans R v) (kas_desc f (kas_rev p (n - (q + 1)) n) (n + 1) 0):=by
      show aK (ans R v) (if ans R v (p.getD n 0) (p.getD (n - 1) 0)=true then (if q > 0 then _ else _) else _)=_
      rw [if_pos c,if_pos hq]
     rw [e]
     obtain ⟨d1,d2⟩:=h.rev (by omega)
     have hn':n≤p.size:=by rw [h.pm.size_eq];omega
     have d3:DU R v (kas_rev p (n - (q + 1)) n) (n + 1):=d1.up (by omega) (by
      rw [qF hn' (Nat.le_refl _)]
      exact R.trans (rA c) (yM h (by omega)))
     obtain ⟨p',n',q',e1,e2,e3,e4⟩:=m5 f _ (n + 1) 0 (by omega) (De.zero d3 d2 (by omega))
     exact ⟨p',n',q',e1,by omega,by omega,e4⟩
    ·have e:aK (ans R v) (kas_desc (f + 1) p n q)=aK (ans R v) (kas_desc f p (n + 1) 0):=by
      show aK (ans R v) (if ans R v (p.getD n 0) (p.getD (n - 1) 0)=true then (if q > 0 then _ else _) else _)=_
      rw [if_pos c,if_neg hq]
     rw [e]
     obtain ⟨p',n',q',e1,e2,e3,e4⟩:=m5 f p (n + 1) 0 (by omega) (De.zero (h.du.up (by omega) (rA c)) h.pm (by omega))
     exact ⟨p',n',q',e1,by omega,by omega,e4⟩
   ·by_cases d:ans R v (p.getD (n - 1) 0) (p.getD n 0)=true
    ·refine ⟨p,n,q,?_,Nat.le_refl _,by omega,h⟩
     show aK (ans R v) (if ans R v (p.getD n 0) (p.getD (n - 1) 0)=true then _ else _)=_
     rw [if_neg c]
     show aK (ans R v) (if ans R v (p.getD (n - 1) 0) (p.getD n 0)=true then _ else _)=_
     rw [if_pos d];rfl
    ·have e:aK (ans R v) (kas_desc (f + 1) p n q)=aK (ans R v) (kas_desc f p (n + 1) (q + 1)):=by
      show aK (ans R v) (if ans R v (p.getD n 0) (p.getD (n - 1) 0)=true then _ else _)=_
      rw [if_neg c]
      show aK (ans R v) (if ans R v (p.getD (n - 1) 0) (p.getD n 0)=true then _ else _)=_
      rw [if_neg d]
     rw [e]
     have x1:R.le (V v p (n - 1)) (V v p n):=o4 c
     have x2:R.le (V v p n) (V v p (n - 1)):=o4 d
     have hh:De R v p₀ p (n + 1) (q + 1):=⟨h.du.up (by omega) x2,h.pm,by omega,fun k hk1 hk2=>by
      show R.le (V v p k) (V v p n)∧R.le (V v p n) (V v p k)
      by_cases z:k=n
      ·subst z;exact ⟨R.rfl _,R.rfl _⟩
      ·obtain ⟨y1,y2⟩:=h.eq k (by omega) (by omega)
       exact ⟨R.trans y1 x1,R.trans x2 y2⟩⟩
     obtain ⟨p',n',q',e1,e2,e3,e4⟩:=m5 f p (n + 1) (q + 1) (by omega) hh
     exact ⟨p',n',q',e1,by omega,by omega,e4⟩
def Cn (R:Ord K) (v:Nat->K) (p₀:Array Nat) (r:Nat×Array Nat):Prop:=SU R v r.2 r.1∧r.2.Perm p₀∧r.1≤p₀.size
theorem vf {p₀:Array Nat}{n:Nat} (h1:1≤n) (hn:n≤p₀.size) (d:DU R v p n) (pm:p.Perm p₀):Cn R v p₀ (aK (ans R v) (kas_tail3 n p₀.size p)):=by
 have hn':n≤p.size:=by rw [pm.size_eq];exact hn
 have s:SU R v (kas_rev p 0 n) n:=fun i j hij hj=>by
  rw [gO hn',gO hn',if_pos (by omega),if_pos (by omega)]
  exact d _ _ (by omega) (by omega)
 obtain ⟨a,b,c,_⟩:=sH (p:=kas_rev p 0 n) (p₀.size - n) n h1 s
 unfold kas_tail3
 rw [eY]
 exact ⟨a,(oV _ _).trans pm,by show aK _ _≤_;omega⟩
theorem uX {p₀:Array Nat}{n:Nat} (h1:1≤n) (hn:n + 1≤p₀.size) (d:DU R v p (n + 1)) (pm:p.Perm p₀):Cn R v p₀ (aK (ans R v) (kas_descPart n p₀.size p)):=by
 obtain ⟨p',n',q',e1,e2,e3,e4⟩:=m5 (p₀:=p₀) (p₀.size - (n + 1)) p (n + 1) 0 (by omega) (De.zero d pm (by omega))
 unfold kas_descPart
 rw [eY,e1]
 show Cn R v p₀ (aK _ (if q' > 0 then _ else _))
 split
 ·obtain ⟨d1,d2⟩:=e4.rev (by omega)
  exact vf (n:=n') (by omega) (by omega) d1 d2
 ·exact vf (n:=n') (by omega) (by omega) e4.du e4.pm
theorem yD {p₀:Array Nat} (h1:1≤p₀.size):Cn R v p₀ (aK (ans R v) (kas_count p₀.size p₀)):=by
 have s1:SU R v p₀ 1:=fun i j hij hj=>by
  obtain rfl:i=j:=by omega
  exact R.rfl _
 obtain ⟨a,b,c,g⟩:=sH (p:=p₀) (p₀.size - 1) 1 (Nat.le_refl _) s1
 unfold kas_count
 rw [eY]
 generalize aK (ans R v) (kas_asc p₀ (p₀.size - 1) 1)=n at a b c g
 by_cases e:(n == p₀.size)=true
 ·rw [if_pos e]
  exact ⟨a,.refl _,by show n≤_;omega⟩
 ·rw [if_neg e]
  have ne:n≠p₀.size:=by simpa using e
  have g':=g (by omega)
  by_cases h:n > 1
  ·rw [if_pos h]
   show Cn R v p₀ (aK _ (if ans R v (p₀.getD 0 0) (p₀.getD (n - 1) 0)=true then _ else _))
   by_cases x:ans R v (p₀.getD 0 0) (p₀.getD (n - 1) 0)=true
   ·rw [if_pos x]
    exact ⟨a,.refl _,by show n≤_;omega⟩
   ·rw [if_neg x]
    have al:R.le (V v p₀ (n - 1)) (V v p₀ 0):=o4 x
    have d:DU R v (kas_rev p₀ 0 n) n:=fun i j hij hj=>by
     rw [gO (by omega),gO (by omega),if_pos (by omega),if_pos (by omega)]
     exact a _ _ (by omega) (by omega)
    refine uX (by omega) (by omega) (d.up (by omega) ?_) (oV _ _)
    rw [qF (by omega) (Nat.le_refl _),gO (by omega),if_pos (by omega)]
    exact R.trans g' (R.trans al (a 0 _ (by omega) (by omega)))
  ·rw [if_neg h]
   obtain rfl:n=1:=by omega
   refine uX (Nat.le_refl _) (by omega) ?_ (.refl _)
   have d1:DU R v p₀ 1:=fun i j hij hj=>by
    obtain rfl:i=j:=by omega
    exact R.rfl _
   exact d1.up (Nat.le_refl _) g'
theorem oU {k:Nat} (s:SU R v p k):∀ (f l r:Nat),l≤r->r≤k->r - l≤f->(∀ i,i<l->R.le (V v p i) (V v p k))->(∀ i,r≤i->i<k->R.le (V v p k) (V v p i))->
  aK (ans R v) (kas_place p k f l r)≤k∧(∀ i,i<aK (ans R v) (kas_place p k f l r)->R.le (V v p i) (V v p k))∧∀ i,aK (ans R v) (kas_place p k f l r)≤i->i<k->R.le (V v p k) (V v p i)
 | 0,l,r,h1,h2,h3,a,b=>by
   obtain rfl:l=r:=by omega
   exact ⟨h2,a,b⟩
 | f + 1,l,r,h1,h2,h3,a,b=>by
   by_cases c:l ≥ r
   ·have e:aK (ans R v) (kas_place p k (f + 1) l r)=l:=by
     show aK (ans R v) (if l ≥ r then .ret l else _)=l
     rw [if_pos c];rfl
    rw [e]
    exact ⟨by omega,a,fun i hi=>b i (by omega)⟩
   ·by_cases d:ans R v (p.getD k 0) (p.getD ((l + r) / 2) 0)=true
    ·have e:aK (ans R v) (kas_place p k (f + 1) l r)=aK (ans R v) (kas_place p k f l ((l + r) / 2)):=by
      show aK (ans R v) (if l ≥ r then .ret l else _)=_
      rw [if_neg c]
      show aK (ans R v) (if ans R v (p.getD k 0) (p.getD ((l + r) / 2) 0)=true then _ else _)=_
      rw [if_pos d]
     rw [e]
     have x:R.le (V v p k) (V v p ((l + r) / 2)):=rA d
     exact oU s f l _ (by omega) (by omega) (by omega) a fun i hi hk=>R.trans x (s _ _ hi hk)
    ·have e:aK (ans R v) (kas_place p k (f + 1) l r)=aK (ans R v) (kas_place p k f ((l + r) / 2 + 1) r):=by
      show aK (ans R v) (if l ≥ r then .ret l else _)=_
      rw [if_neg c]
      show aK (ans R v) (if ans R v (p.getD k 0) (p.getD ((l + r) / 2) 0)=true then _ else _)=_
      rw [if_neg d]
     rw [e]
     have x:R.le (V v p ((l + r) / 2)) (V v p k):=o4 d
     exact oU s f _ r (by omega) (by omega) (by omega) (fun i hi=>R.trans (s i _ (by omega) (by omega)) x) b
theorem wz {p₀:Array Nat}:∀ (f:Nat) (p:Array Nat) (k:Nat),k + f=p₀.size->p.Perm p₀->SU R v p k->SU R v (aK (ans R v) (kas_bin f p k)) p₀.size∧(aK (ans R v) (kas_bin f p k)).Perm p₀
 | 0,p,k,h,pm,s=>by
   obtain rfl:k=p₀.size:=by omega
   exact ⟨s,pm⟩
 | f + 1,p,k,h,pm,s=>by
   obtain ⟨a,b,c⟩:=oU s k 0 k (by omega) (Nat.le_refl _) (by omega) (fun i hi=>by omega) (fun i h1 h2=>by omega)
   show SU R v (aK (ans R v) ((kas_place p k k 0 k).bind fun l=>kas_bin f (bubble p k (k - l)) (k + 1))) _∧(aK (ans R v) ((kas_place p k k 0 k).bind fun l=>kas_bin f (bubble p k (k - l)) (k + 1))).Perm p₀
   rw [eY]
   generalize aK (ans R v) (kas_place p k k 0 k)=l at a b c
   have ks:k<p.size:=by rw [pm.size_eq];omega
   refine wz f _ (k + 1) (by omega) ((bubble_perm _ _ _).trans pm) fun i j hij hj=>?_
   rw [zr ks (by omega),zr ks (by omega)]
   have el:k - (k - l)=l:=by omega
   rw [el]
   by_cases c1:i=l
   ·rw [if_pos c1]
    by_cases c2:j=l
    ·rw [if_pos c2];exact R.rfl _
    ·rw [if_neg c2,if_pos (by omega)]
     exact c _ (by omega) (by omega)
   ·rw [if_neg c1]
    by_cases c3:l<i∧i≤k
    ·rw [if_pos c3,if_neg (by omega),if_pos (by omega)]
     exact s _ _ (by omega) (by omega)
    ·rw [if_neg c3]
     by_cases c2:j=l
     ·rw [if_pos c2];exact b _ (by omega)
     ·rw [if_neg c2]
      by_cases c4:l<j∧j≤k
      ·rw [if_pos c4];exact s _ _ (by omega) (by omega)
      ·rw [if_neg c4];exact s _ _ (by omega) (by omega)
theorem Bb {n:Nat} (h2:1≤n):SU R v (aK (ans R v) (kas_sort n)) n∧(aK (ans R v) (kas_sort n)).Perm (List.range n).toArray:=by
 have z:(List.range n).toArray.size=n:=by simp
 have c:=yD (R:=R) (v:=v) (p₀:=(List.range n).toArray) (by omega)
 rw [z] at c
 unfold kas_sort
 rw [eY]
 revert c
 generalize aK (ans R v) (kas_count n (List.range n).toArray)=r
 obtain ⟨m,p⟩:=r
 rintro ⟨a,b,d⟩
 dsimp only at a b d ⊢
 rw [z] at d
 by_cases e:m<n
 ·rw [if_pos e]
  have q:=wz (R:=R) (v:=v) (p₀:=(List.range n).toArray) (n - max m 1) p (max m 1) (by rw [z];omega) b (by
   by_cases x:1≤m
   ·rw [Nat.max_eq_left x];exact a
   ·have:max m 1=1:=by omega
    rw [this]
    intro i j hij hj
    obtain rfl:i=j:=by omega
    exact R.rfl _)
  rw [z] at q
  exact q
 ·rw [if_neg e]
  obtain rfl:m=n:=by omega
  exact ⟨a,b⟩
end
def eG {α:Type} (n:Nat) (P:α->Prop):KasT α->Prop
 | .ret a=>P a
 | .ask i j k=>i<n∧j<n∧∀ b,eG n P (k b)
theorem eG.bind {α β:Type}{n:Nat}{P:α->Prop}{P':β->Prop}{f:α->KasT β} (hf:∀ a,P a->eG n P' (f a)):∀ {t:KasT α},eG n P t->eG n P' (t.bind f)
 | .ret a,h=>hf a h
 | .ask _ _ k,h=>⟨h.1,h.2.1,fun b=>eG.bind hf (h.2.2 b)⟩
theorem vp {α:Type}{n:Nat}{P:α->Prop}{cmp:Nat->Nat->(Bool->Shared->Prop)->Shared->Prop}{o:Nat->Nat->Bool}{Q:α->Shared->Prop}{s:Shared} (h:∀ i j C,i<n->j<n->C (o i j) s->cmp i j C s):∀ (t:KasT α),eG n P t->Q (aK o t) s->t.kasWp cmp Q s
 | .ret _,_,q=>q
 | .ask i j k,b,q=>h i j _ b.1 b.2.1 (vp h (k (o i j)) (b.2.2 _) q)
def Bd (n:Nat) (p:Array Nat):Prop:=0<n∧∀ x∈p.toList,x<n
theorem Bd.at {n:Nat}{p:Array Nat} (h:Bd n p) (i:Nat):p.getD i 0<n:=by
 rw [Array.getD_eq_getD_getElem?]
 cases e:p[i]? with
 | none=>exact h.1
 | some x=>exact h.2 x (by rw [Array.getElem?_eq_some_iff] at e;obtain ⟨h1,rfl⟩:=e;simp)
theorem Bd.perm {n:Nat}{p q:Array Nat} (h:Bd n p) (pm:q.Perm p):Bd n q:=⟨h.1,fun x hx=>h.2 x ((Array.perm_iff_toList_perm.mp pm).mem_iff.mp hx)⟩
theorem Bd.rev {n:Nat}{p:Array Nat} (h:Bd n p) (i j:Nat):Bd n (kas_rev p i j):=h.perm (mirror_perm _ _ _ _)
theorem sG {n:Nat}{p:Array Nat} (h:Bd n p):∀ (f m:Nat),eG n (fun _=>True) (kas_asc p f m)
 | 0,_=>trivial
 | f + 1,m=>⟨h.at _,h.at _,fun b=>by
   cases b
   ·exact sG h f (m + 1)
   ·exact trivial⟩
theorem mZ {n:Nat}:∀ (f:Nat) (p:Array Nat) (m q:Nat),Bd n p->eG n (fun r=>Bd n r.1) (kas_desc f p m q)
 | 0,p,_,_,h=>h
 | f + 1,p,m,q,h=>⟨h.at _,h.at _,fun b=>by
   cases b
   ·exact ⟨h.at _,h.at _,fun b=>by
     cases b
     ·exact mZ f _ _ _ h
     ·exact h⟩
   ·show eG n _ (if q > 0 then _ else _)
    split
    ·exact mZ f _ _ _ (h.rev _ _)
    ·exact mZ f _ _ _ h⟩
theorem vd {n m k:Nat}{p:Array Nat} (h:Bd n p):eG n (fun r=>Bd n r.2) (kas_tail3 m k p):=by
 unfold kas_tail3
 refine eG.bind (P:=fun _=>True) (fun a _=>?_) (sG (h.rev _ _) _ _)
 show Bd n (kas_rev p 0 m)
 exact h.rev 0 m
theorem uW {n m k:Nat}{p:Array Nat} (h:Bd n p):eG n (fun r=>Bd n r.2) (kas_descPart m k p):=eG.bind (P:=fun r=>Bd n r.1) (fun r hr=>by
 split
 ·exact vd (hr.rev _ _)
 ·exact vd hr) (mZ _ _ _ _ h)
theorem yC {n k:Nat}{p:Array Nat} (h:Bd n p):eG n (fun r=>Bd n r.2) (kas_count k p):=eG.bind (P:=fun _=>True) (fun m _=>by
 split
 ·exact h
 ·split
  ·exact ⟨h.at _,h.at _,fun b=>by
    cases b
    ·exact uW (h.rev _ _)
    ·exact h⟩
  ·exact uW h) (sG h _ _)
theorem oR {n:Nat}{p:Array Nat} (h:Bd n p) (k:Nat):∀ (f l r:Nat),eG n (fun _=>True) (kas_place p k f l r)
 | 0,_,_=>trivial
 | f + 1,l,r=>by
   unfold kas_place
   split
   ·exact trivial
   ·exact ⟨h.at _,h.at _,fun b=>by
     cases b
     ·exact oR h k f _ _
     ·exact oR h k f _ _⟩
theorem wy {n:Nat}:∀ (f:Nat) (p:Array Nat) (k:Nat),Bd n p->eG n (fun _=>True) (kas_bin f p k)
 | 0,_,_,_=>trivial
 | f + 1,p,k,h=>eG.bind (P:=fun _=>True) (fun l _=>wy f _ _ (h.perm (bubble_perm _ _ _))) (oR h _ _ _ _)
theorem Ba {n:Nat} (h:0<n):eG n (fun _=>True) (kas_sort n):=by
 have b:Bd n (List.range n).toArray:=⟨h,fun x hx=>by simpa using hx⟩
 refine eG.bind (P:=fun r=>Bd n r.2) (fun r hr=>?_) (yC b)
 split
 ·exact wy _ _ _ hr
 ·exact trivial
end LB
namespace LB
open PySem PySem.W PySem.Calls PyProof.Rows
def cU:List Int->List Int->Bool
 | [],[]=>false
 | [],_::_=>true
 | _::_,[]=>false
 | a::x,b::y=>if a=b then cU x y else decide (a<b)
theorem uR:∀ x,cU x x=false
 | []=>rfl
 | a::x=>by simp [cU,uR x]
theorem uT:∀ {x y:List Int},cU x y=false->cU y x=false->x=y
 | [],[],_,_=>rfl
 | [],_::_,h,_=>by cases h
 | _::_,[],_,h=>by cases h
 | a::x,b::y,h1,h2=>by
   simp only [cU] at h1 h2
   by_cases c:a=b
   ·subst c
    rw [if_pos rfl] at h1 h2
    rw [uT h1 h2]
   ·rw [if_neg c] at h1
    rw [if_neg (Ne.symm c)] at h2
    simp at h1 h2
    omega
theorem oH:∀ {x y:List Int},cU x y=true->cU y x=false
 | [],[],h=>by cases h
 | [],_::_,_=>rfl
 | _::_,[],h=>by cases h
 | a::x,b::y,h=>by
   simp only [cU] at h ⊢
   by_cases c:a=b
   ·subst c
    rw [if_pos rfl] at h ⊢
    exact oH h
   ·rw [if_neg c] at h
    rw [if_neg (Ne.symm c)]
    simp at h ⊢
    omega
theorem my:∀ {x y z:List Int},cU y x=false->cU z y=false->cU z x=false
 | [],[],[],_,_=>rfl
 | [],[],_::_,_,_=>rfl
 | [],_::_,[],_,h=>by cases h
 | [],_::_,_::_,_,_=>rfl
 | _::_,[],_,h,_=>by cases h
 | _::_,_::_,[],_,h=>by cases h
 | a::x,b::y,c::z,h1,h2=>by
   simp only [cU] at h1 h2 ⊢
   by_cases e1:b=a
   ·subst e1
    rw [if_pos rfl] at h1
    by_cases e2:c=b
    ·subst e2
     rw [if_pos rfl] at h2 ⊢
     exact my h1 h2
    ·rw [if_neg e2] at h2 ⊢
     exact h2
   ·rw [if_neg e1] at h1
    by_cases e2:c=b
    ·subst e2
     rw [if_neg e1]
     exact h1
    ·rw [if_neg e2] at h2
     simp at h1 h2
     rw [if_neg (by omega)]
     simp
     omega
def fY:Ord (List Int) where
 le x y:=cU y x=false
 dec x y:=inferInstance
 rfl:=uR
 trans:=my
 tot x y:=by
  cases h:cU y x
  ·exact .inl rfl
  ·exact .inr (oH h)
def oF (x:List Int):List (List Int)->List (List Int)
 | []=>[x]
 | y::r=>if cU y x=false then x::y::r else y::oF x r
def qx (l:List (List Int)):List (List Int):=l.foldr oF []
theorem mD (x:List Int):∀ l,(oF x l).Perm (x::l)
 | []=>.refl _
 | y::r=>by
   unfold oF
   split
   ·exact .refl _
   ·exact ((mD x r).cons y).trans (.swap x y r)
abbrev jR (l:List (List Int)):Prop:=l.Pairwise fun x y=>cU y x=false
theorem qM (x:List Int):∀ {l:List (List Int)},jR l->jR (oF x l)
 | [],_=>by simp [oF,jR]
 | y::r,h=>by
   have h':=List.pairwise_cons.mp h
   unfold oF
   split
   ·rename_i c
    exact List.pairwise_cons.mpr ⟨fun z hz=>by
     rcases List.mem_cons.mp hz with rfl | hz
     ·exact c
     ·exact my c (h'.1 z hz),h⟩
   ·rename_i c
    refine List.pairwise_cons.mpr ⟨fun z hz=>?_,qM x h'.2⟩
    rcases List.mem_cons.mp ((mD x r).mem_iff.mp hz) with rfl | hz
    ·exact oH (by simpa using c)
    ·exact h'.1 z hz
theorem qy:∀ l:List (List Int),(qx l).Perm l∧jR (qx l)
 | []=>⟨.refl _,List.Pairwise.nil⟩
 | x::l=>by
   obtain ⟨a,b⟩:=qy l
   exact ⟨(mD x _).trans (a.cons x),qM x b⟩
theorem qT:∀ {a b:List (List Int)},a.Perm b->jR a->jR b->a=b
 | [],b,p,_,_=>(List.nil_perm.mp p).symm
 | x::a,[],p,_,_=>absurd p.length_eq (by simp)
 | x::a,y::b,p,ha,hb=>by
   have ha':=List.pairwise_cons.mp ha
   have hb':=List.pairwise_cons.mp hb
   have e:x=y:=by
    have m1:y∈x::a:=p.mem_iff.mpr (List.mem_cons_self)
    have m2:x∈y::b:=p.mem_iff.mp (List.mem_cons_self)
    rcases List.mem_cons.mp m1 with e | m1
    ·exact e.symm
    ·rcases List.mem_cons.mp m2 with e | m2
     ·exact e
     ·exact uT (hb'.1 x m2) (ha'.1 y m1)
   subst e
   rw [qT (List.Perm.cons_inv p) ha'.2 hb'.2]
section
variable {prog:Program}{w:World}{A:Around}{E:Value->Shared->Prop}{s:Shared}{b fin:Bool}{Q:Bool->Shared->Prop}
theorem tM:∀ {xs ys:List Value}{x y:List Int} (i:Nat),IntsAre xs x->IntsAre ys y->fin=decide (x.length<y.length)->Q (cU x y) s->KatLex prog w A b fin Q (xs.zip ys) i s
 | [],[],_,_,i,.nil,.nil,hf,q=>by
   have e:fin=false:=hf
   subst e
   exact kat_nil q
 | [],_::_,_,_,i,.nil,.cons m u r,hf,q=>by
   have e:fin=true:=by rw [hf];simp
   subst e
   exact kat_nil q
 | _::_,[],_,_,i,.cons m u r,.nil,hf,q=>by
   have e:fin=false:=by rw [hf];simp
   subst e
   exact kat_nil q
 | _::xs,_::ys,_,_,i,.cons m t (ns:=x) r,.cons n u (ns:=y) r',hf,q=>by
   rw [List.zip_cons_cons]
   refine kat_cons ((intKind prog w).eqBool (a:=m) (b:=n) (intKind_is _ _ _ _) (intKind_is _ _ _ _) ?_)
   by_cases c:m=n
   ·rw [decide_eq_true c]
    have q':Q (cU x y) s:=by
     rw [cU,if_pos c] at q
     exact q
    exact kat_yes (tM (i + 1) r r' (by rw [hf];simp) q')
   ·rw [decide_eq_false c]
    have q':Q (decide (m<n)) s:=by
     rw [cU,if_neg c] at q
     exact q
    refine kat_no ?_
    cases (b && i == 0) with
    | true=>exact oneLt_int q'
    | false=>exact kat_one _ _ (PySem.P.lt_int q')
end
def TupAt (h:Heap) (v:Value) (t:List Int):Prop:=t≠[]∧∃ a its,v=.ref a∧IsTup h a its∧IntsAre its.toList t
abbrev eN (h:Heap):List Value->List (List Int)->Prop:=Paired (TupAt h)
theorem gR {α β:Type}{R:α->β->Prop}:∀ {xs:List α}{ys:List β}{i:Nat}{x:α}{y:β},Paired R xs ys->xs[i]?=some x->ys[i]?=some y->R x y
 | _,_,0,_,_,.cons r _,e1,e2=>by cases e1;cases e2;exact r
 | _,_,i + 1,_,_,.cons _ t,e1,e2=>gR (i:=i) t e1 e2
theorem eN.keep {h h':Heap} (k:∀ a its,IsTup h a its->IsTup h' a its):∀ {vs:List Value}{ts:List (List Int)},eN h vs ts->eN h' vs ts
 | _,_,.nil=>.nil
 | _,_,.cons ⟨n,a,its,e,i,q⟩ t=>.cons ⟨n,a,its,e,k _ _ i,q⟩ (eN.keep k t)
section
variable {prog:Program}{w:World}{A:Around}{E:Value->Shared->Prop}{s:Shared}
theorem qK {h:Heap}:∀ {vs:List Value}{ts:List (List Int)},eN h vs ts->∃ fs,KatTups h vs fs∧fs.length=vs.length∧∀ v∈fs,∃ i t,v=.int i t
 | _,_,.nil=>⟨[],.nil,rfl,fun v hv=>by cases hv⟩
 | _,_,.cons r tl=>by
   obtain ⟨fs,k,l,q⟩:=qK tl
   obtain ⟨ne,a,its,rfl,⟨o,ho,hc,n,hd⟩,hi⟩:=r
   obtain ⟨l'⟩:=its
   cases hi with
   | nil=>exact absurd rfl ne
   | cons i t r2=>
     refine ⟨_::fs,KatTups.cons ho hc hd rfl k,by simp [l],fun v hv=>?_⟩
     rcases List.mem_cons.mp hv with rfl | hv
     ·exact ⟨i,t,rfl⟩
     ·exact q v hv
theorem wX {vs:List Value}{ts:List (List Int)}{Q:SortKind->Shared->Prop} (h:eN s.heap vs ts) (h1:0<vs.length) (q:Q (tuples' true) s):wpAny (model prog w) A (keyKind' vs.toArray) Q E s:=by
 obtain ⟨fs,k,l,f⟩:=qK h
 exact kat_kind (T:=.type "int") k (by omega) (fun v hv=>by
  obtain ⟨i,t,rfl⟩:=f v hv
  exact Looks.of_pure rfl) (by decide) q
theorem yq {vs:List Value}{ts:List (List Int)} (h:eN s.heap vs ts) {i j:Nat} (hi:i<vs.length) (hj:j<vs.length) {C:Bool->Shared->Prop} (q:C (cU (ts.getD i []) (ts.getD j [])) s):kas_ask prog w A (tuples' true) vs i j C s:=by
 have hl:=Paired.length h
 unfold kas_ask
 have e1:vs.getD i Value.none=vs[i]:=by simp [hi]
 have e2:vs.getD j Value.none=vs[j]:=by simp [hj]
 have t1:ts.getD i []=ts[i]'(by omega):=by simp [show i<ts.length by omega]
 have t2:ts.getD j []=ts[j]'(by omega):=by simp [show j<ts.length by omega]
 rw [e1,e2]
 rw [t1,t2] at q
 obtain ⟨_,a,its,ea,⟨oa,hoa,_,na,hda⟩,ia⟩:=gR (i:=i) h (List.getElem?_eq_getElem hi) (List.getElem?_eq_getElem (by omega))
 obtain ⟨_,b,jts,eb,⟨ob,hob,_,nb,hdb⟩,ib⟩:=gR (i:=j) h (List.getElem?_eq_getElem hj) (List.getElem?_eq_getElem (by omega))
 rw [ea,eb]
 refine kat_lt hoa hda hob hdb (tM 0 ia ib ?_ q)
 have:=IntsAre.length ia
 have:=IntsAre.length ib
 simp at *
 congr 1
 omega
end
theorem nR {α β:Type}{R:α->β->Prop}{xs:List α}{ys:List β} (a:α) (b:β) (h:Paired R xs ys):∀ (is:List Nat),(∀ i∈is,i<xs.length)->Paired R (is.map fun i=>xs.getD i a) (is.map fun i=>ys.getD i b)
 | [],_=>.nil
 | i::is,hi=>by
   have h1:=hi i (List.mem_cons_self)
   have h2:i<ys.length:=by rw [←Paired.length h];exact h1
   refine .cons ?_ (nR a b h is fun j hj=>hi j (.tail _ hj))
   refine gR (i:=i) h ?_ ?_
   ·show xs[i]?=some (xs.getD i a)
    simp [h1]
   ·show ys[i]?=some (ys.getD i b)
    simp [h2]
theorem Bq {ts:List (List Int)} (i j:Nat):ans fY (fun i=>ts.getD i []) i j=cU (ts.getD i []) (ts.getD j []):=by
 by_cases h:cU (ts.getD i []) (ts.getD j [])=true
 ·rw [h]
  have:¬ fY.le (ts.getD j []) (ts.getD i []):=fun z=>by
   have z:cU (ts.getD i []) (ts.getD j [])=false:=z
   rw [h] at z;cases z
  unfold ans
  rw [@decide_eq_false _ (fY.dec _ _) this];rfl
 ·have h:cU (ts.getD i []) (ts.getD j [])=false:=by simpa using h
  have:fY.le (ts.getD j []) (ts.getD i []):=h
  unfold ans
  rw [h,@decide_eq_true _ (fY.dec _ _) this];rfl
theorem Dk {p:Array Nat}{ts:List (List Int)}{n:Nat} (h:SU fY (fun i=>ts.getD i []) p n) (hs:p.size=n):jR (p.toList.map fun i=>ts.getD i []):=by
 rw [jR,List.pairwise_map,List.pairwise_iff_getElem]
 intro i j h1 h2 hij
 have h1':i<p.size:=by simpa using h1
 have h2':j<p.size:=by simpa using h2
 have z:cU (ts.getD (p.getD j 0) []) (ts.getD (p.getD i 0) [])=false:=h i j (Nat.le_of_lt hij) (by omega)
 have e1:p.getD i 0=p.toList[i]:=by simp [Array.getD,h1']
 have e2:p.getD j 0=p.toList[j]:=by simp [Array.getD,h2']
 rw [e1,e2] at z
 exact z
section
variable {prog:Program}{w:World}{A:Around}{E:Value->Shared->Prop}{s:Shared}
structure Srt (vs:List Value) (ts:List (List Int)) (is:List Nat):Prop where
 lt:∀ i∈is,i<vs.length
 pm:is.Perm (List.range vs.length)
 ris:jR (is.map fun i=>ts.getD i [])
theorem qm {a:Addr}{vs:List Value}{ts:List (List Int)}{n:Nat}{P:Fin->Shared->Prop} (ho:s.heap.get? a=some (seqObj "list" vs.toArray n))
  (hT:eN s.heap vs ts) (h64:vs.length<64)
  (h:∀ is,Srt vs ts is->P (.done (.ret .none)) { s with heap:=sortedHeap s.heap a vs (is.map fun i=>vs.getD i Value.none).toArray }) :
  wpAny (model prog w) A (Builtin.«list.sort» ⟨[.ref a],[]⟩) P E s:=by
 have hl:=Paired.length hT
 rw [list_sort_plain]
 have ha:a<s.heap.objs.size:=Heap.lt_size ho
 refine wpAny_bind (listItems_at ho rfl ?_)
 refine wpAny_bind (listUpdate_at ho rfl ?_)
 obtain ⟨e1,ho1⟩:∃ e1,(s.heap.update a (Obj.mapSeq fun _=>#[])).get? a=some (seqObj "list" #[] e1):=⟨_,get?_update_seq ho (fun _=>#[])⟩
 refine wpAny_bind (seqEpoch_at ho1 rfl ?_)
 refine wpAny_bind (wpAny_newTuple ?_)
 refine wpAny_bind (wpAny_newList ?_)
 refine wpAny_holding ?_
 have ho6:(((s.heap.update a (Obj.mapSeq fun _=>#[])).push (seqObj "tuple" vs.toArray 0)).push (seqObj "list" #[] 0)).get? a=some (seqObj "list" #[] e1):=by
  rw [Heap.get?_push_ne _ _ _ (by rw [size_push',Heap.size_update];exact Nat.ne_of_lt (Nat.lt_succ_of_lt ha)),Heap.get?_push_ne _ _ _ (by rw [Heap.size_update];exact Nat.ne_of_lt ha)]
  exact ho1
 have kp:∀ b its,IsTup s.heap b its->IsTup (((s.heap.update a (Obj.mapSeq fun _=>#[])).push (seqObj "tuple" vs.toArray 0)).push (seqObj "list" #[] 0)) b its:=fun b its hb=>by
  obtain ⟨o,hb,hc,r⟩:=hb
  have ne:b≠a:=fun z=>by
   subst z
   rw [ho] at hb;cases hb
   have hc:Value.type "list"=Value.type "tuple":=hc
   exact absurd hc (by decide)
  have lt:=Heap.lt_size hb
  refine ⟨o,?_,hc,r⟩
  rw [Heap.get?_push_ne _ _ _ (by rw [size_push',Heap.size_update];exact Nat.ne_of_lt (Nat.lt_succ_of_lt lt)),Heap.get?_push_ne _ _ _ (by rw [Heap.size_update];exact Nat.ne_of_lt lt),Heap.get?_update_ne _ _ _ _ ne]
  exact hb
 have hT':=hT.keep kp
 show wpAny (model prog w) A _ P E { s with heap:=((s.heap.update a (Obj.mapSeq fun _=>#[])).push (seqObj "tuple" vs.toArray 0)).push (seqObj "list" #[] 0) }
 dsimp only
 have hsz:vs.toArray.size=vs.length:=by simp
 by_cases h2:vs.toArray.size<2
 ·rw [if_pos h2,if_pos h2]
  refine wpAny_bind (wpAny_pure ?_)
  rw [StateT.run_pure]
  refine wpAny_bind (wpAny_pure ?_)
  dsimp only
  refine wpAny_bind (seqEpoch_at ho6 rfl ?_)
  refine wpAny_bind (listUpdate_at ho6 rfl ?_ (hsz2:=by rw [Array.size_map];show (pairsOf vs).size≤_;rw [pairsOf_size,sizeLine_eq];omega))
  simp only [bne_self_eq_false,Bool.false_eq_true,if_false]
  have fin:=h (List.range vs.length) ⟨fun i hi=>List.mem_range.mp hi,.refl _,by
   rw [hsz] at h2
   match vs,h2 with
   | [],_=>exact List.Pairwise.nil
   | [_],_=>exact List.pairwise_singleton _ _
   | _::_::_,z=>simp at z;omega⟩
  have e:((List.range vs.length).map fun i=>vs.getD i Value.none).toArray=(arrOf (SortSt.mk' general' (vs.toArray.zip vs.toArray) #[] 7 none)).map (·.2):=by
   show _=(vs.toArray.zip vs.toArray).map (·.2)
   rw [hsz] at h2
   match vs,h2 with
   | [],_=>simp
   | [_],_=>simp
   | _::_::_,z=>simp at z;omega
  rw [e] at fin
  exact wpAny_pure fin
 ·rw [if_neg h2,if_neg h2]
  rw [hsz] at h2
  refine wpAny_bind (wX hT' (by omega) ?_)
  obtain ⟨su,pm⟩:=Bb (R:=fY) (v:=fun i=>ts.getD i []) (n:=vs.length) (by omega)
  have pl:(aK (ans fY fun i=>ts.getD i []) (kas_sort vs.length)).toList.Perm (List.range vs.length):=by simpa using Array.perm_iff_toList_perm.mp pm
  have fin:=h (aK (ans fY fun i=>ts.getD i []) (kas_sort vs.length)).toList ⟨fun i hi=>List.mem_range.mp (pl.mem_iff.mp hi),pl,by
   exact Dk su (by have:=pl.length_eq;simp only [Array.length_toList,List.length_range] at this;exact this)⟩
  have ask:(kas_sort vs.length).kasWp (kas_ask prog w A (tuples' true) vs) (fun p s'=>p=aK (ans fY fun i=>ts.getD i []) (kas_sort vs.length)∧s'={ s with heap:=((s.heap.update a (Obj.mapSeq fun _=>#[])).push (seqObj "tuple" vs.toArray 0)).push (seqObj "list" #[] 0) }) { s with heap:=((s.heap.update a (Obj.mapSeq fun _=>#[])).push (seqObj "tuple" vs.toArray 0)).push (seqObj "list" #[] 0) }:=
   vp (o:=ans fY fun i=>ts.getD i []) (fun i j C hi hj q=>yq hT' hi hj (by
    have e:ans fY (fun i=>ts.getD i []) i j=cU (ts.getD i []) (ts.getD j []):=by
     exact Bq _ _
    rw [e] at q
    exact q)) _ (Ba (by omega)) ⟨rfl,rfl⟩
  refine wpAny_bind (wpAny_mono (kat_run (Q:=fun st' s'=>arrOf st'=(aK (ans fY fun i=>ts.getD i []) (kas_sort vs.length)).map (kas_item (vs.toArray.zip vs.toArray))∧failedOf st'=none∧s'={ s with heap:=((s.heap.update a (Obj.mapSeq fun _=>#[])).push (seqObj "tuple" vs.toArray 0)).push (seqObj "list" #[] 0) })
   rfl (by omega) h64 (fun p' st' s' a1 a2 a3 a4=>by obtain ⟨rfl,rfl⟩:=a4;exact ⟨a2,a3,rfl⟩) ask) ?_ fun _ _ e=>e)
  rintro ⟨⟨⟩,st'⟩ s' ⟨har,hf,rfl⟩
  dsimp only
  have hout:=kat_snds (vs:=vs) rfl har
  refine wpAny_bind (seqEpoch_at ho6 rfl ?_)
  rw [hout]
  refine wpAny_bind (listUpdate_at ho6 rfl ?_ (hsz2:=by rw [List.size_toArray,List.length_map,sizeLine_eq];have:=pl.length_eq;simp at this ⊢;omega))
  rw [hf]
  simp only [bne_self_eq_false,Bool.false_eq_true,if_false]
  exact wpAny_pure fin
theorem uB {l:Addr}{vs:List Value}{ts:List (List Int)}{Q:Value->Shared->Prop} (hl:s.heap.IsList l vs.toArray) (hT:eN s.heap vs ts) (h64:vs.length<64)
  (h:∀ is,Srt vs ts is->Q (.ref (s.heap.objs.size + 1)) { s with heap:=sortedAll s.heap vs (is.map fun i=>vs.getD i Value.none).toArray }) :
  wpAny (model prog w) A (call (.builtin "sorted") [.ref l]) Q E s:=by
 refine Calls.call_function_entry kind_sorted plain_sorted entry_sorted (args_sorted1 _) ?_
 unfold Builtin.«sorted»
 refine wpAny_bind (m:=checkCount "sorted" 1 1 _) (wpAny_pure ?_)
 refine wpAny_bind (collect_list hl ?_ (by rw [sizeLine_eq];omega))
 refine wpAny_bind (wpAny_newList ?_ (by rw [sizeLine_eq];omega))
 have hsz:((s.heap.push (seqObj "list" #[] 0)).update s.heap.objs.size (Obj.mapSeq (·++ vs.toArray))).objs.size=s.heap.objs.size + 1:=by
  rw [Heap.size_update,size_push']
 have hoL:(((s.heap.push (seqObj "list" #[] 0)).update s.heap.objs.size (Obj.mapSeq (·++ vs.toArray))).push (seqObj "list" vs.toArray 0)).get? (s.heap.objs.size + 1)=some (seqObj "list" vs.toArray 0):=by
  rw [←hsz];exact Heap.get?_push_size _ rfl
 have keep:∀ b o,s.heap.get? b=some o->(((s.heap.push (seqObj "list" #[] 0)).update s.heap.objs.size (Obj.mapSeq (·++ vs.toArray))).push (seqObj "list" vs.toArray 0)).get? b=some o:=fun b o q=>by
  have hlt:b<s.heap.objs.size:=Heap.lt_size q
  rw [Heap.get?_push_ne _ _ _ (by rw [hsz];exact Nat.ne_of_lt (Nat.lt_succ_of_lt hlt)),Heap.get?_update_ne _ _ _ _ (Nat.ne_of_lt hlt),Heap.get?_push_ne _ _ _ (Nat.ne_of_lt hlt)]
  exact q
 show wpAny _ _ _ _ _ { s with heap:=((s.heap.push (seqObj "list" #[] 0)).update s.heap.objs.size (Obj.mapSeq (·++ vs.toArray))).push (seqObj "list" vs.toArray 0) }
 rw [hsz]
 refine wpAny_bind (wpAny_holding (wpAny_call_entry slot_list_sort ⟨_,hoL,rfl⟩ entry_list_sort (qm hoL (hT.keep fun b its x=>x.keeps keep) h64 fun is si=>⟨_,rfl,?_⟩) (args_list_sort _)))
 exact wpAny_pure ⟨_,rfl,h is si⟩
end
end LB
namespace L2
open PySem PySem.Spec PyProof.Rows LS LB
theorem mW:∀ {ns:List Int}{us:List Value},Vals (ns.map V.int) us->IntsAre us ns
 | [],_,.nil=>.nil
 | n::ns,_,.cons r t=>by
   obtain ⟨k,rfl⟩:=r
   exact .cons _ _ (mW t)
def yj (H:Hp) (x:V) (t:List Int):Prop:=t≠[]∧∃ a,x=.ref a∧H a=some (.tup (t.map V.int))
theorem vm {P:Program}{w:World}{H:Hp}{h:Heap} (ok:HOk P w H h):∀ {xs:List V}{us:List Value}{ts:List (List Int)},Paired (yj H) xs ts->Vals xs us->eN h us ts
 | _,_,_,.nil,.nil=>.nil
 | _,_,_,.cons ⟨ne,a,e,ha⟩ p,.cons r v=>by
   subst e
   obtain rfl:_=Value.ref a:=r
   obtain ⟨_,its,hv,it⟩:=ok _ _ ha
   exact .cons ⟨ne,a,_,rfl,it,by simpa using mW hv⟩ (vm ok p v)
theorem xX {xs:List V}{us:List Value} (h:Vals xs us) (is:List Nat) (hi:∀ i∈is,i<us.length):Vals (is.map fun i=>xs.getD i V.non) (is.map fun i=>us.getD i Value.none):=nR _ _ h is fun i m=>by rw [Paired.length h];exact hi i m
theorem sI {X:Cx}:CallR X (.builtin "sorted") (fun xs H Q=>∃ (p:Addr) (ys:List V) (ts:List (List Int)),xs=[.ref p]∧H p=some (.lst ys)∧Paired (yj H) ys ts∧ys.length≤60∧∀ (l:Addr) (is:List Nat),H l=none->(∀ i∈is,i<ys.length)->is.Perm (List.range ys.length)->(is.map fun i=>ts.getD i [])=qx ts->Q (.ref l) (upd H l (.lst (is.map fun i=>ys.getD i V.non)))):=by
 intro pins s σ H xs us Q I r1 h
 obtain ⟨p,ys,ts,rfl,hp,hT,hl,q⟩:=h
 cases r1 with
 | cons r rr=>
   cases rr
   cases r
   obtain ⟨zl,its,n,hv,ho⟩:=I.hok _ _ hp
   have le:=Paired.length hv
   have lt:=Paired.length hT
   refine uB (l:=p) (vs:=its) ⟨_,ho,rfl,_,rfl⟩ (vm I.hok hT hv) (by omega) fun is si=>?_
   obtain ⟨e,he⟩:=sortedAll_at s.heap its (is.map fun i=>its.getD i Value.none).toArray
   have hge:s.heap.objs.size≤s.heap.objs.size + 1:=Nat.le_succ _
   have lis:is.length=ys.length:=by rw [si.pm.length_eq,List.length_range,le]
   have I2:=I.call (h':=sortedAll s.heap its (is.map fun i=>its.getD i Value.none).toArray) (t':=s.toks) (d':=s.drawn) (g':=s.gens) (ch:=[]) (Un.laid (fun _ _=>sortedAll_old) hge (I.hok.fresh hge)) (I.hok.laid (o:=.lst (is.map fun i=>ys.getD i V.non)) (fun _ _=>sortedAll_old) hge ⟨by rw [List.length_map,lis];exact zl,_,e,xX hv is si.lt,he⟩) I.bare (fun _ z=>nomatch z)
   refine ⟨.ref (s.heap.objs.size + 1),upd H (s.heap.objs.size + 1) (.lst (is.map fun i=>ys.getD i V.non)),I2,rfl,q _ is (I.hok.fresh hge) (fun i m=>by rw [le];exact si.lt i m) (by rw [le];exact si.pm) ?_⟩
   refine qT ?_ si.ris (qy ts).2
   refine List.Perm.trans ?_ (qy ts).1.symm
   refine (si.pm.map _).trans ?_
   have e2:its.length=ts.length:=by omega
   rw [e2]
   have e3:(List.range ts.length).map (fun i=>ts.getD i [])=ts:=by
    apply List.ext_getElem
    ·simp
    ·intro i h1 h2
     simp at h1 ⊢
     rw [List.getElem?_eq_getElem h1];rfl
   rw [e3]
end L2
namespace L3
open PySem PySem.Spec L2
open PyProof.Rows hiding St
inductive D where
 | non | bl (b:Bool) | int (i:Int) | str (x:Str)
 | tup (l:List D) | lst (l:List D)
 | dic (ks:List Key) (vs:List D)
 | obj (c:Str) (ns:List Str) (vs:List D)
 | scr (ns:List Int)
 | ref (n:Nat)
 | cls (c:Str) | ty (t:String)
 | exn (a:Addr)
instance:Inhabited D:=⟨.non⟩
inductive DO where
 | lst (l:List D)
 | dic (ks:List Key) (vs:List D)
 | ins (c:Str) (ns:List Str) (vs:List D)
abbrev Mo:=List DO
inductive R (α:Type) where
 | ok (a:α) | exc (c:Str)
def DM (α:Type):=Mo->Option (R α×Mo)
@[reducible] def DM.pure {α:Type} (a:α):DM α:=fun M=>some (.ok a,M)
def DM.bind {α β:Type} (m:DM α) (f:α->DM β):DM β:=fun M=>match m M with
 | none=>none
 | some (.exc c,M')=>some (.exc c,M')
 | some (.ok a,M')=>f a M'
instance:Monad DM where
 pure:=DM.pure
 bind:=DM.bind
def rd {α:Type} (f:Mo->Option α):DM α:=fun M=>(f M).map fun a=>(.ok a,M)
def opt {α:Type} (o:Option α):DM α:=fun M=>o.map fun a=>(.ok a,M)
def stuck {α:Type}:DM α:=fun _=>none
def raise {α:Type} (c:Str):DM α:=fun M=>some (.exc c,M)
abbrev aa:=List (Option D)
structure Rh where
 st:List Addr
 vo:List Addr
instance:Membership Addr Rh:=⟨fun ρ a=>a∈ρ.st∨a∈ρ.vo⟩
def Rh.put (ρ:Rh) (p:Addr):Rh:=⟨ρ.st++[p],ρ.vo⟩
def Rh.hold (ρ:Rh) (p:Addr):Rh:=⟨ρ.st,p::ρ.vo⟩
mutual
inductive Cv (mg:Str->Option Value) (ρ:Rh) (H:Hp):V->D->Prop
 | non:Cv mg ρ H .non .non
 | bl (b:Bool):Cv mg ρ H (.bl b) (.bl b)
 | int (i:Int):Cv mg ρ H (.int i) (.int i)
 | str (x:Str):Cv mg ρ H (.str x) (.str x)
 | tup {a:Addr}{xs:List V}{ds:List D}:a∉ρ->H a=some (.tup xs)->Cvs mg ρ H xs ds->Cv mg ρ H (.ref a) (.tup ds)
 | lst {a:Addr}{xs:List V}{ds:List D}:a∉ρ->H a=some (.lst xs)->Cvs mg ρ H xs ds->Cv mg ρ H (.ref a) (.lst ds)
 | dic {a:Addr}{ks:List Key}{xs:List V}{ds:List D}:a∉ρ->H a=some (.dK (ks.zip xs))->ks.length=xs.length->Cvs mg ρ H xs ds->Cv mg ρ H (.ref a) (.dic ks ds)
 | obj {a C dx:Addr}{c:Str}{ns:List Str}{xs:List V}{ds:List D}:a∉ρ->mg c=some (.ref C)->H a=some (.ins C dx (ns.zip xs))->ns.length=xs.length->Cvs mg ρ H xs ds->Cv mg ρ H (.ref a) (.obj c ns ds)
 | scr {a:Addr}{ns:List Int}:a∉ρ->Rd H a (.lst (ns.map V.int))->Cv mg ρ H (.ref a) (.scr ns)
 | ref {n:Nat}{a:Addr}:ρ.st[n]?=some a->Cv mg ρ H (.ref a) (.ref n)
 | cls {c:Str}{C:Addr}:mg c=some (.ref C)->Cv mg ρ H (.ref C) (.cls c)
 | ty (t:String):Cv mg ρ H (.ty t) (.ty t)
 | exn (a:Addr):Cv mg ρ H (.ref a) (.exn a)
inductive Cvs (mg:Str->Option Value) (ρ:Rh) (H:Hp):List V->List D->Prop
 | nil:Cvs mg ρ H [] []
 | cons {v:V}{d:D}{vs:List V}{ds:List D}:Cv mg ρ H v d->Cvs mg ρ H vs ds->Cvs mg ρ H (v::vs) (d::ds)
end
structure Ext (ρ:Rh) (H:Hp) (ρ':Rh) (H':Hp):Prop where
 pre:∃ τ,ρ'.st=ρ.st++τ
 vo:ρ'.vo=ρ.vo
 new:∀ a,a∈ρ'.st->a∉ρ.st->H a=none
 keep:∀ a o,H a=some o->a∉ρ.st->H' a=some o
theorem Ext.refl {ρ:Rh}{H:Hp}:Ext ρ H ρ H:=⟨⟨[],by simp⟩,rfl,fun a h n=>absurd h n,fun _ _ h _=>h⟩
theorem Ext.keeps {ρ ρ':Rh}{H H':Hp} (e:Ext ρ H ρ' H') {a:Addr}{o:HO} (h:H a=some o) (n:a∉ρ):H' a=some o:=e.keep a o h fun z=>n (.inl z)
theorem Ext.out1 {ρ ρ':Rh}{H H':Hp} (e:Ext ρ H ρ' H') {a:Addr}{o:HO} (h:H a=some o) (n:a∉ρ.st):a∉ρ'.st:=fun z=>by
 have:=e.new a z n
 rw [h] at this;cases this
theorem Ext.out {ρ ρ':Rh}{H H':Hp} (e:Ext ρ H ρ' H') {a:Addr}{o:HO} (h:H a=some o) (n:a∉ρ):a∉ρ':=fun z=>by
 rcases z with z | z
 ·exact e.out1 h (fun y=>n (.inl y)) z
 ·rw [e.vo] at z;exact n (.inr z)
theorem Ext.trans {ρ ρ1 ρ2:Rh}{H H1 H2:Hp} (e:Ext ρ H ρ1 H1) (f:Ext ρ1 H1 ρ2 H2):Ext ρ H ρ2 H2:=by
 refine ⟨?_,f.vo.trans e.vo,fun a h n=>?_,fun a o h n=>f.keep a o (e.keep a o h n) (e.out1 h n)⟩
 ·obtain ⟨τ,h1⟩:=e.pre
  obtain ⟨υ,h2⟩:=f.pre
  exact ⟨τ++υ,by rw [h2,h1,List.append_assoc]⟩
 ·by_cases z:a∈ρ1.st
  ·exact e.new a z n
  ·cases q:H a with
   | none=>rfl
   | some o=>
     have:=f.new a h z
     rw [e.keep a o q n] at this;cases this
theorem Ext.at {ρ ρ':Rh}{H H':Hp} (e:Ext ρ H ρ' H') {n:Nat}{a:Addr} (h:ρ.st[n]?=some a):ρ'.st[n]?=some a:=by
 obtain ⟨τ,h1⟩:=e.pre
 rw [h1,List.getElem?_append_left (List.getElem?_eq_some_iff.mp h).1];exact h
theorem Rh.nhold {ρ:Rh}{a p:Addr} (h:a∉ρ) (n:a≠p):a∉ρ.hold p:=fun z=>by
 rcases z with z | z
 ·exact h (.inl z)
 ·rcases List.mem_cons.mp z with z | z
  ·exact n z
  ·exact h (.inr z)
theorem Rd.some {H:Hp}{a:Addr}{u:HO} (h:Rd H a u):∃ o,H a=some o:=by
 rcases h with h | ⟨o,h⟩
 ·exact ⟨_,h⟩
 ·exact ⟨_,h⟩
section
variable {mg:Str->Option Value}{ρ ρ':Rh}{H H':Hp}
mutual
theorem Cv.mono (e:Ext ρ H ρ' H'):∀ {v:V}{d:D},Cv mg ρ H v d->Cv mg ρ' H' v d
 | _,_,.non=>.non
 | _,_,.bl b=>.bl b
 | _,_,.int i=>.int i
 | _,_,.str x=>.str x
 | _,_,.tup n h c=>.tup (e.out h n) (e.keeps h n) (Cvs.mono e c)
 | _,_,.lst n h c=>.lst (e.out h n) (e.keeps h n) (Cvs.mono e c)
 | _,_,.dic n h l c=>.dic (e.out h n) (e.keeps h n) l (Cvs.mono e c)
 | _,_,.obj n m h l c=>.obj (e.out h n) m (e.keeps h n) l (Cvs.mono e c)
 | _,_,.scr n h=>.scr (by obtain ⟨o,q⟩:=Rd.some h;exact e.out q n) (by
   rcases h with h | ⟨o,h⟩
   ·exact .inl (e.keeps h n)
   ·exact .inr ⟨o,e.keeps h n⟩)
 | _,_,.ref h=>.ref (e.at h)
 | _,_,.cls h=>.cls h
 | _,_,.ty t=>.ty t
 | _,_,.exn a=>.exn a
theorem Cvs.mono (e:Ext ρ H ρ' H'):∀ {vs:List V}{ds:List D},Cvs mg ρ H vs ds->Cvs mg ρ' H' vs ds
 | _,_,.nil=>.nil
 | _,_,.cons h t=>.cons (Cv.mono e h) (Cvs.mono e t)
end
theorem Cvs.len:∀ {vs:List V}{ds:List D},Cvs mg ρ H vs ds->vs.length=ds.length
 | _,_,.nil=>rfl
 | _,_,.cons _ t=>by rw [List.length_cons,List.length_cons,Cvs.len t]
theorem Cvs.append:∀ {vs us:List V}{ds es:List D},Cvs mg ρ H vs ds->Cvs mg ρ H us es->Cvs mg ρ H (vs++us) (ds++es)
 | _,_,_,_,.nil,h=>h
 | _,_,_,_,.cons a b,h=>.cons a (Cvs.append b h)
theorem Cvs.take:∀ {vs:List V}{ds:List D} (n:Nat),Cvs mg ρ H vs ds->Cvs mg ρ H (vs.take n) (ds.take n)
 | _,_,0,_=>by simp only [List.take_zero];exact .nil
 | _,_,n + 1,.nil=>by simp only [List.take_nil];exact .nil
 | _,_,n + 1,.cons a b=>by simp only [List.take_succ_cons];exact .cons a (Cvs.take n b)
theorem Cvs.drop:∀ {vs:List V}{ds:List D} (n:Nat),Cvs mg ρ H vs ds->Cvs mg ρ H (vs.drop n) (ds.drop n)
 | _,_,0,h=>by simp only [List.drop_zero];exact h
 | _,_,n + 1,.nil=>by simp only [List.drop_nil];exact .nil
 | _,_,n + 1,.cons a b=>by simp only [List.drop_succ_cons];exact Cvs.drop n b
theorem Cvs.get:∀ {vs:List V}{ds:List D}{i:Nat}{d:D},Cvs mg ρ H vs ds->ds[i]?=some d->∃ v,vs[i]?=some v∧Cv mg ρ H v d
 | _,_,i,_,.nil,e=>by simp at e
 | _,_,0,_,.cons h _,e=>by simp at e;subst e;exact ⟨_,rfl,h⟩
 | _,_,i + 1,_,.cons _ t,e=>by
   obtain ⟨v,q,c⟩:=Cvs.get (i:=i) t (by simpa using e)
   exact ⟨v,by simpa using q,c⟩
theorem Cvs.set {v:V}{d:D} (h:Cv mg ρ H v d):∀ {vs:List V}{ds:List D} (i:Nat),Cvs mg ρ H vs ds->Cvs mg ρ H (vs.set i v) (ds.set i d)
 | _,_,_,.nil=>.nil
 | _,_,0,.cons _ t=>.cons h t
 | _,_,i + 1,.cons a t=>.cons a (Cvs.set h i t)
def lC (mg:Str->Option Value) (ρ:Rh) (H:Hp) (a:Addr):DO->Prop
 | .lst l=>∃ xs,H a=some (.lst xs)∧Cvs mg ρ H xs l
 | .dic ks l=>∃ xs,H a=some (.dK (ks.zip xs))∧ks.length=xs.length∧Cvs mg ρ H xs l
 | .ins c ns l=>∃ C dx xs,mg c=some (.ref C)∧H a=some (.ins C dx (ns.zip xs))∧ns.length=xs.length∧Cvs mg ρ H xs l
theorem lC.some {a:Addr}{o:DO} (h:lC mg ρ H a o):∃ u,H a=some u:=by
 cases o with
 | lst l=>obtain ⟨xs,h,_⟩:=h;exact ⟨_,h⟩
 | dic ks l=>obtain ⟨xs,h,_⟩:=h;exact ⟨_,h⟩
 | ins c ns l=>obtain ⟨C,dx,xs,_,h,_⟩:=h;exact ⟨_,h⟩
theorem lC.mono {a:Addr}{o:DO} (e:Ext ρ H ρ' H') (k:H' a=H a) (h:lC mg ρ H a o):lC mg ρ' H' a o:=by
 cases o with
 | lst l=>obtain ⟨xs,h,c⟩:=h;exact ⟨xs,k.trans h,c.mono e⟩
 | dic ks l=>obtain ⟨xs,h,q,c⟩:=h;exact ⟨xs,k.trans h,q,c.mono e⟩
 | ins c ns l=>obtain ⟨C,dx,xs,m,h,q,c⟩:=h;exact ⟨C,dx,xs,m,k.trans h,q,c.mono e⟩
structure J (mg:Str->Option Value) (ρ:Rh) (M:Mo) (H:Hp):Prop where
 len:ρ.st.length=M.length
 nd:ρ.st.Nodup
 obj:∀ (n:Nat) a o,ρ.st[n]?=some a->M[n]?=some o->lC mg ρ H a o
 vol:∀ a,a∈ρ.vo->a∉ρ.st∧∃ xs,H a=some (.lst xs)
theorem J.some {M:Mo} (j:J mg ρ M H) {a:Addr} (h:a∈ρ):∃ u,H a=some u:=by
 rcases h with h | h
 ·obtain ⟨n,hn⟩:=List.mem_iff_getElem?.mp h
  have lt:n<M.length:=by rw [←j.len];exact (List.getElem?_eq_some_iff.mp hn).1
  exact (j.obj n a M[n] hn (List.getElem?_eq_getElem lt)).some
 ·obtain ⟨_,xs,e⟩:=j.vol a h
  exact ⟨_,e⟩
theorem J.fresh {M:Mo} (j:J mg ρ M H) {p:Addr} (h:H p=none):p∉ρ:=fun z=>by
 obtain ⟨u,e⟩:=j.some z
 rw [h] at e;cases e
theorem J.inj {M:Mo} (j:J mg ρ M H) {n m:Nat}{a:Addr} (h:ρ.st[n]?=Option.some a) (k:ρ.st[m]?=Option.some a):n=m:=by
 obtain ⟨h1,e1⟩:=List.getElem?_eq_some_iff.mp h
 obtain ⟨h2,e2⟩:=List.getElem?_eq_some_iff.mp k
 have q:∀ i k (hi:i<ρ.st.length) (hk:k<ρ.st.length),i<k->ρ.st[i]≠ρ.st[k]:=fun i k hi hk lt=>List.pairwise_iff_getElem.mp j.nd i k hi hk lt
 rcases Nat.lt_trichotomy n m with z | z | z
 ·exact absurd (e1.trans e2.symm) (q n m h1 h2 z)
 ·exact z
 ·exact absurd (e2.trans e1.symm) (q m n h2 h1 z)
theorem Ext.lay {p:Addr}{o:HO} (h:H p=none):Ext ρ H ρ (upd H p o):=⟨⟨[],by simp⟩,rfl,fun a h n=>absurd h n,fun a o e _=>by rw [upd_ne (ne_of_none e h)];exact e⟩
theorem Ext.same (S:Same H H'):Ext ρ H ρ H':=⟨⟨[],by simp⟩,rfl,fun a h n=>absurd h n,fun a o e _=>S _ _ e⟩
theorem J.same {M:Mo} (j:J mg ρ M H) (S:Same H H'):J mg ρ M H':=⟨j.len,j.nd,fun n a o h k=>by
 have c:=j.obj n a o h k
 obtain ⟨u,e⟩:=c.some
 exact c.mono (Ext.same S) (by rw [e,S _ _ e]),fun a h=>let ⟨x,xs,e⟩:=j.vol a h;⟨x,xs,S _ _ e⟩⟩
theorem J.lay {M:Mo} (j:J mg ρ M H) {p:Addr} (o:HO) (h:H p=none):J mg ρ M (upd H p o):=j.same (same_new h o)
theorem Ext.put {p:Addr}{o:HO} (h:H p=none):Ext ρ H (ρ.put p) (upd H p o):=⟨⟨[p],rfl⟩,rfl,fun a ha n=>by
 rcases List.mem_append.mp ha with z | z
 ·exact absurd z n
 ·rw [List.mem_singleton.mp z];exact h,fun a o e _=>by rw [upd_ne (ne_of_none e h)];exact e⟩
theorem J.put {M:Mo} (j:J mg ρ M H) {p:Addr}{o:HO}{u:DO} (h:H p=none) (c:lC mg (ρ.put p) (upd H p o) p u):J mg (ρ.put p) (M++[u]) (upd H p o):=by
 have np:p∉ρ.st:=fun z=>j.fresh h (.inl z)
 refine ⟨?_,?_,fun n a w h1 h2=>?_,fun a ha=>?_⟩
 ·show (ρ.st++[p]).length=_
  rw [List.length_append,List.length_append,j.len];rfl
 ·show (ρ.st++[p]).Nodup
  rw [List.nodup_append]
  exact ⟨j.nd,by simp,fun x hx y hy e=>by rw [List.mem_singleton.mp hy] at e;exact np (e ▸ hx)⟩
 ·have h1:(ρ.st++[p])[n]?=Option.some a:=h1
  by_cases hn:n<ρ.st.length
  ·rw [List.getElem?_append_left hn] at h1
   rw [List.getElem?_append_left (by rw [←j.len];exact hn)] at h2
   have c:=j.obj n a w h1 h2
   exact c.mono (Ext.put h) (upd_ne fun (z:a=p)=>np (z ▸ List.mem_of_getElem? h1))
  ·have hl:n<(ρ.st++[p]).length:=(List.getElem?_eq_some_iff.mp h1).1
   rw [List.length_append] at hl
   have e:n=ρ.st.length:=by have:[p].length=1:=rfl;omega
   subst e
   rw [List.getElem?_append_right (Nat.le_refl _)] at h1
   rw [j.len,List.getElem?_append_right (Nat.le_refl _)] at h2
   simp at h1 h2
   subst h1 h2
   exact c
 ·obtain ⟨x,xs,e⟩:=j.vol a ha
  have ne:a≠p:=ne_of_none e h
  refine ⟨fun z=>?_,xs,by rw [upd_ne ne];exact e⟩
  rcases List.mem_append.mp z with z | z
  ·exact x z
  ·exact ne (List.mem_singleton.mp z)
theorem Ext.upd {p:Addr}{o:HO} (h:p∈ρ.st):Ext ρ H ρ (L2.upd H p o):=⟨⟨[],by simp⟩,rfl,fun a h n=>absurd h n,fun a u e n=>by rw [upd_ne (fun (z:a=p)=>n (z ▸ h))];exact e⟩
theorem J.upd {M:Mo} (j:J mg ρ M H) {n:Nat}{p:Addr}{o:HO}{u:DO} (h:ρ.st[n]?=Option.some p) (c:lC mg ρ (L2.upd H p o) p u):J mg ρ (M.set n u) (L2.upd H p o):=by
 refine ⟨by rw [List.length_set];exact j.len,j.nd,fun m a w h1 h2=>?_,fun a ha=>?_⟩
 ·by_cases e:m=n
  ·subst e
   rw [h] at h1;cases h1
   have lt:m<M.length:=by rw [←j.len];exact (List.getElem?_eq_some_iff.mp h).1
   rw [List.getElem?_set_self lt] at h2
   cases h2
   exact c
  ·rw [List.getElem?_set_ne (fun z=>e z.symm)] at h2
   have ne:a≠p:=fun z=>by subst z;exact e (j.inj h1 h)
   exact (j.obj m a w h1 h2).mono (Ext.upd (List.mem_of_getElem? h)) (by rw [upd_ne ne])
 ·obtain ⟨x,xs,e⟩:=j.vol a ha
  exact ⟨x,xs,by rw [upd_ne (fun (z:a=p)=>x (z ▸ List.mem_of_getElem? h))];exact e⟩
theorem ig {p a:Addr}{o:HO} (hp:p∈ρ.vo) (n:a∉ρ):L2.upd H p o a=H a:=upd_ne fun z=>n (by rw [z];exact .inr hp)
mutual
theorem Cv.hold {p:Addr}{o:HO} (hp:p∈ρ.vo):∀ {v:V}{d:D},Cv mg ρ H v d->Cv mg ρ (L2.upd H p o) v d
 | _,_,.non=>.non
 | _,_,.bl b=>.bl b
 | _,_,.int i=>.int i
 | _,_,.str x=>.str x
 | _,_,.tup n h c=>.tup n ((ig hp n).trans h) (Cvs.hold hp c)
 | _,_,.lst n h c=>.lst n ((ig hp n).trans h) (Cvs.hold hp c)
 | _,_,.dic n h l c=>.dic n ((ig hp n).trans h) l (Cvs.hold hp c)
 | _,_,.obj n m h l c=>.obj n m ((ig hp n).trans h) l (Cvs.hold hp c)
 | _,_,.scr n h=>.scr n (by
   rcases h with h | ⟨o,h⟩
   ·exact .inl ((ig hp n).trans h)
   ·exact .inr ⟨o,(ig hp n).trans h⟩)
 | _,_,.ref h=>.ref h
 | _,_,.cls h=>.cls h
 | _,_,.ty t=>.ty t
 | _,_,.exn a=>.exn a
theorem Cvs.hold {p:Addr}{o:HO} (hp:p∈ρ.vo):∀ {vs:List V}{ds:List D},Cvs mg ρ H vs ds->Cvs mg ρ (L2.upd H p o) vs ds
 | _,_,.nil=>.nil
 | _,_,.cons h t=>.cons (Cv.hold hp h) (Cvs.hold hp t)
end
mutual
theorem Cv.less {ρ1:Rh} (hs:ρ1.st=ρ.st) (hv:∀ a,a∈ρ1.vo->a∈ρ.vo):∀ {v:V}{d:D},Cv mg ρ H v d->Cv mg ρ1 H v d
 | _,_,.non=>.non
 | _,_,.bl b=>.bl b
 | _,_,.int i=>.int i
 | _,_,.str x=>.str x
 | _,_,.tup n h c=>.tup (fun z=>n (z.elim (fun y=>.inl (hs ▸ y)) fun y=>.inr (hv _ y))) h (Cvs.less hs hv c)
 | _,_,.lst n h c=>.lst (fun z=>n (z.elim (fun y=>.inl (hs ▸ y)) fun y=>.inr (hv _ y))) h (Cvs.less hs hv c)
 | _,_,.dic n h l c=>.dic (fun z=>n (z.elim (fun y=>.inl (hs ▸ y)) fun y=>.inr (hv _ y))) h l (Cvs.less hs hv c)
 | _,_,.obj n m h l c=>.obj (fun z=>n (z.elim (fun y=>.inl (hs ▸ y)) fun y=>.inr (hv _ y))) m h l (Cvs.less hs hv c)
 | _,_,.scr n h=>.scr (fun z=>n (z.elim (fun y=>.inl (hs ▸ y)) fun y=>.inr (hv _ y))) h
 | _,_,.ref h=>.ref (by rw [hs];exact h)
 | _,_,.cls h=>.cls h
 | _,_,.ty t=>.ty t
 | _,_,.exn a=>.exn a
theorem Cvs.less {ρ1:Rh} (hs:ρ1.st=ρ.st) (hv:∀ a,a∈ρ1.vo->a∈ρ.vo):∀ {vs:List V}{ds:List D},Cvs mg ρ H vs ds->Cvs mg ρ1 H vs ds
 | _,_,.nil=>.nil
 | _,_,.cons h t=>.cons (Cv.less hs hv h) (Cvs.less hs hv t)
end
mutual
theorem Cv.more {p:Addr} (hp:H p=none):∀ {v:V}{d:D},Cv mg ρ H v d->Cv mg (ρ.hold p) H v d
 | _,_,.non=>.non
 | _,_,.bl b=>.bl b
 | _,_,.int i=>.int i
 | _,_,.str x=>.str x
 | _,_,.tup n h c=>.tup (Rh.nhold n (ne_of_none h hp)) h (Cvs.more hp c)
 | _,_,.lst n h c=>.lst (Rh.nhold n (ne_of_none h hp)) h (Cvs.more hp c)
 | _,_,.dic n h l c=>.dic (Rh.nhold n (ne_of_none h hp)) h l (Cvs.more hp c)
 | _,_,.obj n m h l c=>.obj (Rh.nhold n (ne_of_none h hp)) m h l (Cvs.more hp c)
 | _,_,.scr n h=>.scr (Rh.nhold n (by obtain ⟨o,q⟩:=Rd.some h;exact ne_of_none q hp)) h
 | _,_,.ref h=>.ref h
 | _,_,.cls h=>.cls h
 | _,_,.ty t=>.ty t
 | _,_,.exn a=>.exn a
theorem Cvs.more {p:Addr} (hp:H p=none):∀ {vs:List V}{ds:List D},Cvs mg ρ H vs ds->Cvs mg (ρ.hold p) H vs ds
 | _,_,.nil=>.nil
 | _,_,.cons h t=>.cons (Cv.more hp h) (Cvs.more hp t)
end
theorem lC.map {ρ1:Rh}{H1:Hp}{a:Addr}{o:DO} (k:H1 a=H a) (f:∀ vs ds,Cvs mg ρ H vs ds->Cvs mg ρ1 H1 vs ds) (h:lC mg ρ H a o):lC mg ρ1 H1 a o:=by
 cases o with
 | lst l=>obtain ⟨xs,h,c⟩:=h;exact ⟨xs,k.trans h,f _ _ c⟩
 | dic ks l=>obtain ⟨xs,h,q,c⟩:=h;exact ⟨xs,k.trans h,q,f _ _ c⟩
 | ins c ns l=>obtain ⟨C,dx,xs,m,h,q,c⟩:=h;exact ⟨C,dx,xs,m,k.trans h,q,f _ _ c⟩
theorem J.begin {M:Mo} (j:J mg ρ M H) {p:Addr} (hp:H p=none):J mg (ρ.hold p) M (L2.upd H p (.lst [])):=by
 have np:p∉ρ.st:=fun z=>j.fresh hp (.inl z)
 refine ⟨j.len,j.nd,fun n a o h1 h2=>?_,fun a ha=>?_⟩
 ·exact (j.obj n a o h1 h2).map (upd_ne fun (z:a=p)=>np (z ▸ List.mem_of_getElem? h1)) fun vs ds c=>(c.more hp).hold (.head _)
 ·rcases List.mem_cons.mp ha with rfl | ha
  ·exact ⟨np,[],upd_same⟩
  ·obtain ⟨x,xs,e⟩:=j.vol a ha
   exact ⟨x,xs,by rw [upd_ne (ne_of_none e hp)];exact e⟩
theorem J.grow {M:Mo} (j:J mg ρ M H) {p:Addr}{ys:List V} (hp:p∈ρ.vo):J mg ρ M (L2.upd H p (.lst ys)):=by
 refine ⟨j.len,j.nd,fun n a o h1 h2=>?_,fun a ha=>?_⟩
 ·exact (j.obj n a o h1 h2).map (upd_ne fun (z:a=p)=>(j.vol p hp).1 (z ▸ List.mem_of_getElem? h1)) fun vs ds c=>c.hold hp
 ·by_cases z:a=p
  ·subst z;exact ⟨(j.vol a ha).1,ys,upd_same⟩
  ·obtain ⟨x,xs,e⟩:=j.vol a ha
   exact ⟨x,xs,by rw [upd_ne z];exact e⟩
theorem J.done {M:Mo}{p:Addr}{ρ1:Rh} (j:J mg ρ1 M H) (hv:ρ1.vo=p::ρ.vo):J mg ⟨ρ1.st,ρ.vo⟩ M H:=by
 refine ⟨j.len,j.nd,fun n a o h1 h2=>?_,fun a ha=>?_⟩
 ·exact lC.map (ρ:=ρ1) rfl (fun vs ds c=>Cvs.less (ρ:=ρ1) (ρ1:=⟨ρ1.st,ρ.vo⟩) rfl (fun a ha=>by rw [hv];exact .tail _ ha) c) (j.obj n a o h1 h2)
 ·obtain ⟨x,y⟩:=j.vol a (by rw [hv];exact .tail _ ha)
  exact ⟨x,y⟩
end
structure Kp (ρ:Rh) (H:Hp) (ρ':Rh) (H':Hp):Prop where
 pre:∃ τ,ρ'.st=ρ.st++τ
 keep:∀ a o,H a=some o->a∉ρ->a∉ρ'∧H' a=some o
theorem Ext.kp {ρ ρ':Rh}{H H':Hp} (e:Ext ρ H ρ' H'):Kp ρ H ρ' H':=⟨e.pre,fun a o h n=>⟨e.out h n,e.keeps h n⟩⟩
theorem Kp.refl {ρ:Rh}{H:Hp}:Kp ρ H ρ H:=Ext.refl.kp
theorem Kp.trans {ρ ρ1 ρ2:Rh}{H H1 H2:Hp} (a:Kp ρ H ρ1 H1) (b:Kp ρ1 H1 ρ2 H2):Kp ρ H ρ2 H2:=by
 refine ⟨?_,fun c o h n=>let ⟨x,y⟩:=a.keep c o h n;b.keep c o y x⟩
 obtain ⟨τ,h1⟩:=a.pre
 obtain ⟨υ,h2⟩:=b.pre
 exact ⟨τ++υ,by rw [h2,h1,List.append_assoc]⟩
theorem Kp.at {ρ ρ':Rh}{H H':Hp} (e:Kp ρ H ρ' H') {n:Nat}{a:Addr} (h:ρ.st[n]?=some a):ρ'.st[n]?=some a:=by
 obtain ⟨τ,h1⟩:=e.pre
 rw [h1,List.getElem?_append_left (List.getElem?_eq_some_iff.mp h).1];exact h
section
variable {mg:Str->Option Value}{ρ ρ':Rh}{H H':Hp}
mutual
theorem Cv.kp (e:Kp ρ H ρ' H'):∀ {v:V}{d:D},Cv mg ρ H v d->Cv mg ρ' H' v d
 | _,_,.non=>.non
 | _,_,.bl b=>.bl b
 | _,_,.int i=>.int i
 | _,_,.str x=>.str x
 | _,_,.tup n h c=>.tup (e.keep _ _ h n).1 (e.keep _ _ h n).2 (Cvs.kp e c)
 | _,_,.lst n h c=>.lst (e.keep _ _ h n).1 (e.keep _ _ h n).2 (Cvs.kp e c)
 | _,_,.dic n h l c=>.dic (e.keep _ _ h n).1 (e.keep _ _ h n).2 l (Cvs.kp e c)
 | _,_,.obj n m h l c=>.obj (e.keep _ _ h n).1 m (e.keep _ _ h n).2 l (Cvs.kp e c)
 | _,_,.scr n h=>by
   rcases h with h | ⟨o,h⟩
   ·exact .scr (e.keep _ _ h n).1 (.inl (e.keep _ _ h n).2)
   ·exact .scr (e.keep _ _ h n).1 (.inr ⟨o,(e.keep _ _ h n).2⟩)
 | _,_,.ref h=>.ref (e.at h)
 | _,_,.cls h=>.cls h
 | _,_,.ty t=>.ty t
 | _,_,.exn a=>.exn a
theorem Cvs.kp (e:Kp ρ H ρ' H'):∀ {vs:List V}{ds:List D},Cvs mg ρ H vs ds->Cvs mg ρ' H' vs ds
 | _,_,.nil=>.nil
 | _,_,.cons h t=>.cons (Cv.kp e h) (Cvs.kp e t)
end
end
def lQ (mg:Str->Option Value) (ρ:Rh) (H:Hp) {α β:Type} (rel:Rh->Hp->β->α->Prop) (Q:β->Hp->Prop) (E:XK):R α×Mo->Prop
 | (.ok a,M')=>∀ ρ' H' b,Ext ρ H ρ' H'->J mg ρ' M' H'->rel ρ' H' b a->Q b H'
 | (.exc c,M')=>∀ ρ' H' C,Ext ρ H ρ' H'->J mg ρ' M' H'->mg c=some (.ref C)->E (.ref C) none H'
def Go (mg:Str->Option Value) (E:XK) {α β:Type} (rel:Rh->Hp->β->α->Prop) (Q:β->Hp->Prop) (ρ:Rh) (H:Hp) (m:DM α) (M:Mo):Prop:=∃ r,m M=some r∧lQ mg ρ H rel Q E r
section
variable {mg:Str->Option Value}{ρ ρ':Rh}{H H':Hp}{E:XK}{α β γ δ':Type}{rel:Rh->Hp->β->α->Prop}{rel':Rh->Hp->δ'->γ->Prop}{Q:δ'->Hp->Prop}{Q':β->Hp->Prop}
theorem lQ.mono {r:R α×Mo} (e:Ext ρ H ρ' H') (h:lQ mg ρ H rel Q' E r):lQ mg ρ' H' rel Q' E r:=by
 obtain ⟨r,M'⟩:=r
 cases r with
 | ok a=>exact fun ρ2 H2 b e2 j c=>h ρ2 H2 b (e.trans e2) j c
 | exc c=>exact fun ρ2 H2 C e2 j m=>h ρ2 H2 C (e.trans e2) j m
theorem Go.bind {m:DM α}{k:α->DM γ}{M:Mo} (g:Go mg E rel' Q ρ H (m >>= k) M)
  (f:∀ ρ1 H1 M1 b a,Ext ρ H ρ1 H1->J mg ρ1 M1 H1->rel ρ1 H1 b a->Go mg E rel' Q ρ1 H1 (k a) M1->Q' b H1):Go mg E rel Q' ρ H m M:=by
 obtain ⟨r,e,p⟩:=g
 have e:DM.bind m k M=some r:=e
 unfold DM.bind at e
 split at e
 ·cases e
 ·rename_i c M' em
  cases e
  exact ⟨_,em,p⟩
 ·rename_i a M' em
  exact ⟨_,em,fun ρ1 H1 b x j c=>f ρ1 H1 M' b a x j c ⟨r,e,p.mono x⟩⟩
theorem Go.rd {f:Mo->Option α}{M:Mo} (g:Go mg E rel Q' ρ H (rd f) M):∃ a,f M=some a∧∀ ρ' H' b,Ext ρ H ρ' H'->J mg ρ' M H'->rel ρ' H' b a->Q' b H':=by
 obtain ⟨r,e,p⟩:=g
 obtain ⟨a,e1,rfl⟩:=Option.map_eq_some_iff.mp e
 exact ⟨a,e1,p⟩
theorem Go.opt {o:Option α}{M:Mo} (g:Go mg E rel Q' ρ H (opt o) M):∃ a,o=some a∧∀ ρ' H' b,Ext ρ H ρ' H'->J mg ρ' M H'->rel ρ' H' b a->Q' b H':=by
 obtain ⟨r,e,p⟩:=g
 obtain ⟨a,e1,rfl⟩:=Option.map_eq_some_iff.mp e
 exact ⟨a,e1,p⟩
theorem Go.pure {a:α}{M:Mo} (g:Go mg E rel Q' ρ H (pure a) M):∀ ρ' H' b,Ext ρ H ρ' H'->J mg ρ' M H'->rel ρ' H' b a->Q' b H':=by
 obtain ⟨r,e,p⟩:=g
 have e:some (R.ok a,M)=some r:=e
 cases e
 exact p
end
structure Ev (mg:Str->Option Value) (ρ:Rh) (H:Hp) (σ:St) (δ:aa):Prop where
 len:σ.length=δ.length
 val:∀ (i:Nat) d,δ[i]?=some (some d)->∃ v,σ[i]?=some (some v)∧Cv mg ρ H v d
theorem Ev.mono {mg:Str->Option Value}{ρ ρ':Rh}{H H':Hp}{σ:St}{δ:aa} (e:Ext ρ H ρ' H') (h:Ev mg ρ H σ δ):Ev mg ρ' H' σ δ:=
 ⟨h.len,fun i d q=>let ⟨v,a,b⟩:=h.val i d q;⟨v,a,b.mono e⟩⟩
theorem Ev.kp {mg:Str->Option Value}{ρ ρ':Rh}{H H':Hp}{σ:St}{δ:aa} (e:Kp ρ H ρ' H') (h:Ev mg ρ H σ δ):Ev mg ρ' H' σ δ:=
 ⟨h.len,fun i d q=>let ⟨v,a,b⟩:=h.val i d q;⟨v,a,b.kp e⟩⟩
theorem Ev.set {mg:Str->Option Value}{ρ:Rh}{H:Hp}{σ:St}{δ:aa}{i:Nat}{v:V}{d:D} (h:Ev mg ρ H σ δ) (c:Cv mg ρ H v d):Ev mg ρ H (σ.set i (some v)) (δ.set i (some d)):=by
 refine ⟨by rw [List.length_set,List.length_set,h.len],fun j x q=>?_⟩
 by_cases e:j=i
 ·subst e
  have hj:j<(δ.set j (some d)).length:=(List.getElem?_eq_some_iff.mp q).1
  rw [List.length_set] at hj
  rw [List.getElem?_set_self hj] at q
  cases q
  exact ⟨v,List.getElem?_set_self (by rw [h.len];exact hj),c⟩
 ·rw [List.getElem?_set_ne (fun z=>e z.symm)] at q ⊢
  exact h.val j x q
def tD (mg:Str->Option Value) (E:XK) {α β:Type} (rel:Rh->Hp->β->α->Prop) (f:aa->DM α):St->Hp->(β->Hp->Prop)->Prop:=fun σ H Q=>
 ∃ ρ δ M,Ev mg ρ H σ δ∧J mg ρ M H∧Go mg E rel Q ρ H (f δ) M
def Bv (_:Rh) (_:Hp) (b a:Bool):Prop:=b=a
structure DE (X:Cx) (E:XK) (e:Expr) (f:aa->DM D):Prop where
 h:PE X e (tD X.mg E (Cv X.mg) f)
structure DA (X:Cx) (E:XK) (es:List Expr) (f:aa->DM (List D)):Prop where
 h:QA X es (tD X.mg E (Cvs X.mg) f)
structure DT (X:Cx) (E:XK) (e:Expr) (f:aa->DM Bool):Prop where
 h:PT X e (tD X.mg E Bv f)
theorem PE.mono {X:Cx}{e:Expr}{t t':TE} (h:PE X e t) (f:∀ σ H Q,t' σ H Q->t σ H Q):PE X e t':=fun pins s σ H Q I q=>h pins s σ H Q I (f σ H Q q)
theorem PT.mono {X:Cx}{e:Expr}{t t':TT} (h:PT X e t) (f:∀ σ H Q,t' σ H Q->t σ H Q):PT X e t':=fun pins s σ H Q I q=>h pins s σ H Q I (f σ H Q q)
theorem PA.mono {X:Cx}{e:List Expr}{t t':TA} (h:PA X e t) (f:∀ σ H Q,t' σ H Q->t σ H Q):PA X e t':=fun p pins s σ H Q I q=>h p pins s σ H Q I (f σ H Q q)
mutual
def toPy:D->Option PyData
 | .non=>some .none
 | .bl b=>some (.bool b)
 | .int i=>some (.int i)
 | .str x=>some (.str x)
 | .tup l=>(jq l).map .tuple
 | .lst l=>(jq l).map .list
 | _=>none
def jq:List D->Option (List PyData)
 | []=>some []
 | d::l=>match toPy d,jq l with
   | some p,some ps=>some (p::ps)
   | _,_=>none
end
section
variable {mg:Str->Option Value}{ρ:Rh}{H:Hp}
mutual
theorem Cv.repF:∀ {v:V}{d:D}{p:PyData},Cv mg ρ H v d->toPy d=some p->RepF H true v p
 | _,_,_,.non,e=>by simp only [toPy,Option.some.injEq] at e;subst e;exact .non
 | _,_,_,.bl b,e=>by simp only [toPy,Option.some.injEq] at e;subst e;exact .bl b
 | _,_,_,.int i,e=>by simp only [toPy,Option.some.injEq] at e;subst e;exact .int i
 | _,_,_,.str x,e=>by simp only [toPy,Option.some.injEq] at e;subst e;exact .str x
 | _,_,_,.tup _ h c,e=>by
   simp only [toPy] at e
   obtain ⟨ps,e1,rfl⟩:=Option.map_eq_some_iff.mp e
   exact .tup h (Cvs.repF c e1)
 | _,_,_,.lst _ h c,e=>by
   simp only [toPy] at e
   obtain ⟨ps,e1,rfl⟩:=Option.map_eq_some_iff.mp e
   exact .lst h (Cvs.repF c e1)
 | _,_,_,.dic ..,e=>by simp [toPy] at e
 | _,_,_,.obj ..,e=>by simp [toPy] at e
 | _,_,_,.scr ..,e=>by simp [toPy] at e
 | _,_,_,.ref ..,e=>by simp [toPy] at e
 | _,_,_,.cls ..,e=>by simp [toPy] at e
 | _,_,_,.ty ..,e=>by simp [toPy] at e
 | _,_,_,.exn ..,e=>by simp [toPy] at e
theorem Cvs.repF:∀ {vs:List V}{ds:List D}{ps:List PyData},Cvs mg ρ H vs ds->jq ds=some ps->RepsF H true vs ps
 | _,_,_,.nil,e=>by simp only [jq,Option.some.injEq] at e;subst e;exact .nil
 | _,_,_,.cons (d:=d) (ds:=ds) h t,e=>by
   simp only [jq] at e
   split at e
   ·rename_i p ps h1 h2
    cases e
    exact .cons (Cv.repF h h1) (Cvs.repF t h2)
   ·cases e
end
end
section
variable {X:Cx}{E:XK}{a b c:Expr}{fa fb fc:aa->DM D}{pos:Pos}
def BX (i:Nat) (δ:aa):DM D:=opt ((δ[i]?).join)
theorem aj (i:Nat) {x:Str} (hN:X.N[i]?=some x:=by rfl) (hv:Vis X.env.scope x:=by first | exact Or.inl rfl | exact Or.inr (Or.inl rfl) | exact Or.inr (Or.inr rfl)) (hd:(x == ("__debug__":Str))=false:=by decide)
  (hcd:(x == ("__classdict__":Str))=false:=by decide):DE X E (.Name x pos) (BX i):=⟨PE.mono (pe_var (i:=i) hN hv hd hcd) fun σ H Q h=>by
 obtain ⟨ρ,δ,M,ev,j,g⟩:=h
 obtain ⟨d,e,q⟩:=g.opt
 have e':δ[i]?=some (some d):=by
  cases z:δ[i]? with
  | none=>rw [z] at e;cases e
  | some o=>rw [z] at e;exact congrArg some e
 obtain ⟨v,h1,h2⟩:=ev.val i d e'
 exact ⟨v,h1,q ρ H v .refl j h2⟩⟩
theorem jY {e:Expr}{v:V}{d:D} (h:PE X e (tC v)) (hc:∀ ρ H,Cv X.mg ρ H v d):DE X E e (fun _=>pure d):=⟨PE.mono h fun σ H Q h=>by
 obtain ⟨ρ,δ,M,ev,j,g⟩:=h
 exact g.pure ρ H v .refl j (hc _ _)⟩
theorem aB {i j}:DE X E (.Constant (.int i) j pos) (fun _=>pure (.int i)):=jY pe_int fun _ _=>.int i
theorem cL {i j}:DE X E (.Constant (.bool i) j pos) (fun _=>pure (.bl i)):=jY pe_bl fun _ _=>.bl i
theorem DQ {x:Str}{i:Int}{t:Tok} (h:X.mg x=some (.int i t)) (hg:Gl X x:=by rfl) (hd:(x == ("__debug__":Str))=false:=by decide):DE X E (.Name x pos) (fun _=>pure (.int i)):=jY (Ec h hg hd) fun _ _=>.int i
theorem fD {x:Str}{T:String} (hm:X.mg x=none) (hg:Gl X x:=by rfl) (hv:bootBuiltins x=some (.type T):=by decide +kernel) (hn:x≠"__name__":=by decide) (hdb:(x == ("__debug__":Str))=false:=by decide):DE X E (.Name x pos) (fun _=>pure (.ty T)):=
 jY (Ef hm hg hv hn hdb) fun _ _=>.ty T
def rD (mg:Str->Option Value) (E:XK) (g:D->D->DM D):R2:=fun x y H Q=>∃ ρ M dx dy,J mg ρ M H∧Cv mg ρ H x dx∧Cv mg ρ H y dy∧Go mg E (Cv mg) Q ρ H (g dx dy) M
def cz (X:Cx) (E:XK) (f:Value->Value->Sem Value) (g:D->D->DM D):Prop:=OpR X f (rD X.mg E g)
theorem zx {g:D->D->DM D}{r:R2} (hr:∀ x y H Q,rD X.mg E g x y H Q->r x y H Q) {σ:L2.St}{H:Hp}{Q:VK} (h:tD X.mg E (Cv X.mg) (fun δ=>fa δ >>= fun x=>fb δ >>= fun y=>g x y) σ H Q) :
  tOp r (tD X.mg E (Cv X.mg) fa) (tD X.mg E (Cv X.mg) fb) σ H Q:=by
 obtain ⟨ρ,δ,M,ev,j,g1⟩:=h
 exact ⟨ρ,δ,M,ev,j,g1.bind fun ρ1 H1 M1 x dx e1 j1 c1 g2=>⟨ρ1,δ,M1,ev.mono e1,j1,g2.bind fun ρ2 H2 M2 y dy e2 j2 c2 g3=>hr _ _ _ _ ⟨ρ2,M2,dx,dy,j2,c1.mono e2,c2,g3⟩⟩⟩
theorem aX {op:Operator}{g:D->D->DM D} (ho:cz X E (binaryOp op) g) (ha:DE X E a fa) (hb:DE X E b fb):DE X E (.BinOp a op b pos) (fun δ=>fa δ >>= fun x=>fb δ >>= fun y=>g x y):=
 ⟨PE.mono (pe_op ho ha.h hb.h) fun σ H Q h=>zx (fun _ _ _ _ z=>z) h⟩
theorem iu {op:CmpOp}{g:D->D->DM D} (ho:cz X E (compareOp op) g) (ha:DE X E a fa) (hb:DE X E b fb) (hm:behindInMarks op b=false:=by first | exact nomark _ | rfl):DE X E (.Compare a [op] [b] pos) (fun δ=>fa δ >>= fun x=>fb δ >>= fun y=>g x y):=
 ⟨PE.mono (pe_cmpR ho ha.h hb.h hm) fun σ H Q h=>zx (fun _ _ _ _ z=>z) h⟩
def iR:D->DM Bool
 | .bl b=>pure b
 | _=>stuck
theorem Go.iR {mg:Str->Option Value}{ρ:Rh}{H:Hp}{d:D}{M:Mo}{Q:Bool->Hp->Prop} (g:Go mg E Bv Q ρ H (iR d) M):∃ k,d=.bl k∧∀ ρ' H',Ext ρ H ρ' H'->J mg ρ' M H'->Q k H':=by
 cases d with
 | bl k=>exact ⟨k,rfl,fun ρ' H' e j=>(show Go mg E Bv Q ρ H (Pure.pure k) M from g).pure ρ' H' k e j rfl⟩
 | _=>obtain ⟨r,e,_⟩:=g;cases e
theorem dt_of {e:Expr}{f:aa->DM D}{t:TE} (h:PT X e (tTest t)) (ht:∀ σ H Q,tD X.mg E (Cv X.mg) f σ H Q->t σ H Q):DT X E e (fun δ=>f δ >>= iR):=⟨PT.mono h fun σ H Q h=>by
 obtain ⟨ρ,δ,M,ev,j,g1⟩:=h
 refine ht _ _ _ ⟨ρ,δ,M,ev,j,g1.bind fun ρ1 H1 M1 x dx e1 j1 c1 g2=>?_⟩
 obtain ⟨k,rfl,q⟩:=Go.iR g2
 cases c1
 exact ⟨k,rfl,q ρ1 H1 .refl j1⟩⟩
theorem bK {op:CmpOp}{g:D->D->DM D} (ho:cz X E (compareOp op) g) (ha:DE X E a fa) (hb:DE X E b fb) (hm:behindInMarks op b=false:=by first | exact nomark _ | rfl):DT X E (.Compare a [op] [b] pos) (fun δ=>(fa δ >>= fun x=>fb δ >>= fun y=>g x y) >>= iR):=
 dt_of (pt_cmpR ho ha.h hb.h hm) fun σ H Q h=>zx (fun _ _ _ _ z=>z) h
theorem GR {g g':D->D->DM D}{σ:L2.St}{H:Hp}{Q:VK} (h:tD X.mg E (Cv X.mg) (fun δ=>fa δ >>= fun x=>fb δ >>= fun y=>g x y >>= fun z=>iR z >>= fun k=>if k then fc δ >>= fun w=>g' y w else pure (.bl false)) σ H Q) :
  tChain (rD X.mg E g) (rD X.mg E g') (tD X.mg E (Cv X.mg) fa) (tD X.mg E (Cv X.mg) fb) (tD X.mg E (Cv X.mg) fc) σ H Q:=by
 obtain ⟨ρ,δ,M,ev,j,g1⟩:=h
 refine ⟨ρ,δ,M,ev,j,g1.bind fun ρ1 H1 M1 x dx e1 j1 c1 g2=>⟨ρ1,δ,M1,ev.mono e1,j1,g2.bind fun ρ2 H2 M2 y dy e2 j2 c2 g3=>⟨ρ2,M2,dx,dy,j2,c1.mono e2,c2,g3.bind fun ρ3 H3 M3 z dz e3 j3 c3 g4=>?_⟩⟩⟩
 have g5:=g4.bind (rel:=Bv) (Q':=fun k H4=>dz=.bl k∧∃ ρ4 M4,Ext ρ3 H3 ρ4 H4∧J X.mg ρ4 M4 H4∧Go X.mg E (Cv X.mg) Q ρ4 H4 (if k then fc δ >>= fun w=>g' dy w else pure (.bl false)) M4)
 have key:∃ k,dz=.bl k∧Go X.mg E (Cv X.mg) Q ρ3 H3 (if k then fc δ >>= fun w=>g' dy w else pure (.bl false)) M3:=by
  cases dz with
  | bl k=>exact ⟨k,rfl,g4⟩
  | _=>obtain ⟨r,e,_⟩:=g4;cases e
 obtain ⟨k,rfl,g6⟩:=key
 cases c3
 refine ⟨k,rfl,?_⟩
 cases k with
 | false=>exact iteF (g6.pure ρ3 H3 _ .refl j3 (.bl false))
 | true=>
   have g6:Go X.mg E (Cv X.mg) Q ρ3 H3 (fc δ >>= fun w=>g' dy w) M3:=g6
   exact iteT ⟨ρ3,δ,M3,((ev.mono e1).mono e2).mono e3,j3,g6.bind fun ρ4 H4 M4 w dw e4 j4 c4 g7=>⟨ρ4,M4,dy,dw,j4,(c2.mono e3).mono e4,c4,g7⟩⟩
theorem yH {op op':CmpOp}{g g':D->D->DM D} (ho:cz X E (compareOp op) g) (ho':cz X E (compareOp op') g') (ha:DE X E a fa) (hb:DE X E b fb) (hc:DE X E c fc) (hm:lastMarks [op,op'] [b,c]=false:=by with_unfolding_all rfl) :
  DT X E (.Compare a [op,op'] [b,c] pos) (fun δ=>(fa δ >>= fun x=>fb δ >>= fun y=>g x y >>= fun z=>iR z >>= fun k=>if k then fc δ >>= fun w=>g' y w else pure (.bl false)) >>= iR):=
 dt_of (pt_chain ho ho' ha.h hb.h hc.h hm) fun σ H Q h=>GR h
def uy:D->Mo->Option Bool
 | .non,_=>some false
 | .bl b,_=>some b
 | .int i,_=>some (i != 0)
 | .str y,_=>if y.length≤sizeLine then some ((y.length:Int) != 0) else none
 | .tup l,_=>some (!l.isEmpty)
 | .lst l,_=>some (!l.isEmpty)
 | .scr l,_=>some (!l.isEmpty)
 | .dic ks _,_=>some (!ks.isEmpty)
 | .ref n,M=>match M[n]? with
   | some (.lst l)=>some (!l.isEmpty)
   | some (.dic ks _)=>some (!ks.isEmpty)
   | _=>none
 | _,_=>none
theorem qZ {α β:Type}{ks:List α}{xs:List β} (h:ks.length=xs.length):(ks.zip xs).isEmpty=ks.isEmpty:=by
 cases ks with
 | nil=>simp
 | cons k ks=>cases xs with
   | nil=>simp at h
   | cons x xs=>rfl
theorem Cvs.empty {mg:Str->Option Value}{ρ:Rh}{H:Hp}{vs:List V}{ds:List D} (c:Cvs mg ρ H vs ds):vs.isEmpty=ds.isEmpty:=by cases c<;>rfl
theorem Dn {K:PySem.W.Frag}{mg:Str->Option Value}{ρ:Rh}{H:Hp}{M:Mo}{x:V}{d:D}{k:Bool} (j:J mg ρ M H) (h:Cv mg ρ H x d) (e:uy d M=some k):TruV K x H k:=by
 cases h with
 | non=>cases e;rfl
 | bl b=>cases e;rfl
 | int i=>cases e;rfl
 | str y=>
   unfold uy at e
   dsimp only at e
   split at e
   ·cases e;exact ⟨‹_›,rfl⟩
   ·cases e
 | tup n h c=>cases e;exact .inr (.inl ⟨_,SqT.of h,by rw [c.empty]⟩)
 | lst n h c=>cases e;exact .inl ⟨_,SqL.of h,by rw [c.empty]⟩
 | scr n h=>cases e;exact .inl ⟨_,.inl h,by simp⟩
 | dic n h l c=>cases e;exact .inr (.inr ⟨_,h,by rw [qZ l]⟩)
 | ref q=>
   rename_i n a
   unfold uy at e
   dsimp only at e
   split at e
   ·rename_i l hl
    cases e
    obtain ⟨xs,h,c⟩:=j.obj n a _ q hl
    exact .inl ⟨_,SqL.of h,by rw [c.empty]⟩
   ·rename_i ks l hl
    cases e
    obtain ⟨xs,h,z,c⟩:=j.obj n a _ q hl
    exact .inr (.inr ⟨_,h,by rw [qZ z]⟩)
   ·cases e
 | obj=>cases e
 | cls=>cases e
 | ty=>cases e
 | exn=>cases e
theorem bO (ha:DE X E a fa) (he:∀ whole,isTrue a X.env whole=(do let v ←whole;standAt a.pos;holding [v] (truthy v))):DT X E a (fun δ=>fa δ >>= fun x=>rd (uy x)):=⟨PT.mono (pt_truth ha.h he) fun σ H Q h=>by
 obtain ⟨ρ,δ,M,ev,j,g1⟩:=h
 refine ⟨ρ,δ,M,ev,j,g1.bind fun ρ1 H1 M1 x dx e1 j1 c1 g2=>?_⟩
 obtain ⟨k,e,q⟩:=g2.rd
 exact ⟨k,Dn j1 c1 e,q ρ1 H1 k .refl j1 rfl⟩⟩
variable {ta tb:aa->DM Bool}
theorem cM (ha:DT X E a ta):DT X E (.UnaryOp .Not a pos) (fun δ=>ta δ >>= fun k=>pure (!k)):=⟨PT.mono (pt_not ha.h) fun σ H Q h=>by
 obtain ⟨ρ,δ,M,ev,j,g1⟩:=h
 refine ⟨ρ,δ,M,ev,j,g1.bind fun ρ1 H1 M1 x dx e1 j1 c1 g2=>?_⟩
 have c1:x=dx:=c1
 subst c1
 exact g2.pure ρ1 H1 _ .refl j1 rfl⟩
structure DW (X:Cx) (E:XK) (e:Expr) (f:aa->DM Bool):Prop where
 h:PW X e (tD X.mg E Bv f)
theorem PW.mono {e:Expr}{t t':TT} (h:PW X e t) (f:∀ σ H Q,t' σ H Q->t σ H Q):PW X e t':=fun w pins s σ H Q I q=>h w pins s σ H Q I (f σ H Q q)
theorem DW.dt {e:Expr} (h:DW X E e ta):DT X E e ta:=⟨PW.pt h.h⟩
theorem zX (ha:DT X E a ta):DW X E (.BoolOp .And [a] pos) ta:=⟨pw_and1 ha.h⟩
theorem fH (ha:DT X E a ta):DW X E (.BoolOp .Or [a] pos) ta:=⟨pw_or1 ha.h⟩
variable {rest:List Expr}
theorem BP (ha:DT X E a ta) (hb:DW X E (.BoolOp .And (b::rest) pos) tb):DW X E (.BoolOp .And (a::b::rest) pos) (fun δ=>ta δ >>= fun k=>if k then tb δ else pure false):=⟨PW.mono (pw_and ha.h hb.h) fun σ H Q h=>by
 obtain ⟨ρ,δ,M,ev,j,g1⟩:=h
 refine ⟨ρ,δ,M,ev,j,g1.bind fun ρ1 H1 M1 x dx e1 j1 c1 g2=>?_⟩
 have c1:x=dx:=c1
 subst c1
 cases x with
 | true=>exact iteT ⟨ρ1,δ,M1,ev.mono e1,j1,g2⟩
 | false=>exact iteF (Go.pure (a:=false) g2 ρ1 H1 _ .refl j1 rfl)⟩
theorem gh (ha:DT X E a ta) (hb:DW X E (.BoolOp .Or (b::rest) pos) tb):DW X E (.BoolOp .Or (a::b::rest) pos) (fun δ=>ta δ >>= fun k=>if k then pure true else tb δ):=⟨PW.mono (pw_or ha.h hb.h) fun σ H Q h=>by
 obtain ⟨ρ,δ,M,ev,j,g1⟩:=h
 refine ⟨ρ,δ,M,ev,j,g1.bind fun ρ1 H1 M1 x dx e1 j1 c1 g2=>?_⟩
 have c1:x=dx:=c1
 subst c1
 cases x with
 | false=>exact iteF ⟨ρ1,δ,M1,ev.mono e1,j1,g2⟩
 | true=>exact iteT (Go.pure (a:=true) g2 ρ1 H1 _ .refl j1 rfl)⟩
theorem mj {op:BoolOp} (ha:DE X E a fa):DE X E (.BoolOp op [a] pos) fa:=⟨pe_one ha.h⟩
theorem Go.isB {mg:Str->Option Value}{ρ:Rh}{H:Hp}{α β:Type}{rel:Rh->Hp->β->α->Prop}{Q:β->Hp->Prop}{d:D}{M:Mo}{f:Bool->DM α} (g:Go mg E rel Q ρ H (L3.iR d >>= f) M):∃ k,d=.bl k∧Go mg E rel Q ρ H (f k) M:=by
 cases d with
 | bl k=>exact ⟨k,rfl,g⟩
 | _=>obtain ⟨r,e,_⟩:=g;cases e
theorem lZ (ha:DE X E a fa) (hb:DE X E (.BoolOp .And (b::rest) pos) fb):DE X E (.BoolOp .And (a::b::rest) pos) (fun δ=>fa δ >>= fun x=>iR x >>= fun k=>if k then fb δ else pure (.bl false)):=⟨PE.mono (pe_and ha.h hb.h) fun σ H Q h=>by
 obtain ⟨ρ,δ,M,ev,j,g1⟩:=h
 refine ⟨ρ,δ,M,ev,j,g1.bind fun ρ1 H1 M1 x dx e1 j1 c1 g2=>?_⟩
 obtain ⟨k,rfl,g3⟩:=Go.isB g2
 cases c1
 refine ⟨k,rfl,?_⟩
 cases k with
 | true=>exact iteT ⟨ρ1,δ,M1,ev.mono e1,j1,g3⟩
 | false=>exact iteF (Go.pure (a:=D.bl false) g3 ρ1 H1 _ .refl j1 (.bl false))⟩
theorem wH (ha:DE X E a fa):DE X E (.UnaryOp .Not a pos) (fun δ=>fa δ >>= fun x=>iR x >>= fun k=>pure (.bl (!k))):=⟨PE.mono (pe_not ha.h) fun σ H Q h=>by
 obtain ⟨ρ,δ,M,ev,j,g1⟩:=h
 refine ⟨ρ,δ,M,ev,j,g1.bind fun ρ1 H1 M1 x dx e1 j1 c1 g2=>?_⟩
 obtain ⟨k,rfl,g3⟩:=Go.isB g2
 cases c1
 exact ⟨k,rfl,g3.pure ρ1 H1 _ .refl j1 (.bl _)⟩⟩
theorem ak:DA X E [] (fun _=>pure []):=⟨⟨PA.mono Dc.h fun σ H Q h=>by
 obtain ⟨ρ,δ,M,ev,j,g⟩:=h
 exact g.pure ρ H [] .refl j .nil⟩⟩
theorem ao {es:List Expr}{fs:aa->DM (List D)} (ha:DE X E a fa) (hr:DA X E es fs) (hs:notStar a=true:=by rfl):DA X E (a::es) (fun δ=>fa δ >>= fun x=>fs δ >>= fun xs=>pure (x::xs)):=⟨⟨PA.mono (Gd ha.h hr.h hs).h fun σ H Q h=>by
 obtain ⟨ρ,δ,M,ev,j,g1⟩:=h
 exact ⟨ρ,δ,M,ev,j,g1.bind fun ρ1 H1 M1 x dx e1 j1 c1 g2=>⟨ρ1,δ,M1,ev.mono e1,j1,g2.bind fun ρ2 H2 M2 xs dxs e2 j2 c2 g3=>g3.pure ρ2 H2 _ .refl j2 (.cons (c1.mono e2) c2)⟩⟩⟩⟩
def fO {α:Type} (l:List α):Bool:=decide (l.length≤sizeLine)
def xg (l:List D):DM D:=opt (if fO l then some (.tup l) else none)
def lG (l:List D):DM D:=opt (if fO l then some (.lst l) else none)
def eQ (l:List D):DM D:=fun M=>if fO l then some (.ok (.ref M.length),M++[.lst l]) else none
theorem pL {l:List D}{d e:D} (h:(if fO l then some d else none)=some e):l.length≤sizeLine∧d=e:=by
 split at h
 ·cases h;exact ⟨of_decide_eq_true ‹_›,rfl⟩
 ·cases h
variable {es:List Expr}{fs:aa->DM (List D)}
theorem pC {x1} (h:DA X E es fs):DE X E (.Tuple es x1 pos) (fun δ=>fs δ >>= xg):=⟨PE.mono (Al h.h) fun σ H Q h=>by
 obtain ⟨ρ,δ,M,ev,j,g1⟩:=h
 refine ⟨ρ,δ,M,ev,j,g1.bind fun ρ1 H1 M1 xs dxs e1 j1 c1 g2=>?_⟩
 obtain ⟨d,e,q⟩:=Go.opt g2
 obtain ⟨hz,rfl⟩:=pL e
 exact ⟨by rw [c1.len];exact hz,fun p hp=>q ρ1 _ _ (.lay hp) (j1.lay _ hp) (.tup (j1.fresh hp) upd_same (c1.mono (.lay hp)))⟩⟩
theorem fB (h:DA X E es fs):DE X E (.List es pos) (fun δ=>fs δ >>= lG):=⟨PE.mono (uY h.h) fun σ H Q h=>by
 obtain ⟨ρ,δ,M,ev,j,g1⟩:=h
 refine ⟨ρ,δ,M,ev,j,g1.bind fun ρ1 H1 M1 xs dxs e1 j1 c1 g2=>?_⟩
 obtain ⟨d,e,q⟩:=Go.opt g2
 obtain ⟨hz,rfl⟩:=pL e
 exact ⟨by rw [c1.len];exact hz,fun p hp=>q ρ1 _ _ (.lay hp) (j1.lay _ hp) (.lst (j1.fresh hp) upd_same (c1.mono (.lay hp)))⟩⟩
theorem Go.eQ {mg:Str->Option Value}{ρ:Rh}{H:Hp}{M:Mo}{Q:VK}{l:List D}{xs:List V}{p:Addr} (g:Go mg E (Cv mg) Q ρ H (eQ l) M) (j:J mg ρ M H) (c:Cvs mg ρ H xs l) (hp:H p=none):l.length≤sizeLine∧Q (.ref p) (upd H p (.lst xs)):=by
 obtain ⟨r,e,q⟩:=g
 unfold L3.eQ at e
 split at e
 ·cases e
  refine ⟨of_decide_eq_true ‹_›,?_⟩
  have x:Ext ρ H (ρ.put p) (upd H p (.lst xs)):=.put hp
  refine q _ _ _ x (j.put hp ⟨xs,upd_same,c.mono x⟩) (.ref ?_)
  show (ρ.st++[p])[_]?=_
  rw [←j.len];simp
 ·cases e
theorem Go.mkR_len {mg:Str->Option Value}{ρ:Rh}{H:Hp}{M:Mo}{Q:VK}{l:List D} (g:Go mg E (Cv mg) Q ρ H (L3.eQ l) M):l.length≤sizeLine:=by
 obtain ⟨r,e,q⟩:=g
 unfold L3.eQ at e
 split at e
 ·exact of_decide_eq_true ‹_›
 ·cases e
theorem uK (h:DA X E es fs):DE X E (.List es pos) (fun δ=>fs δ >>= eQ):=⟨PE.mono (uY h.h) fun σ H Q h=>by
 obtain ⟨ρ,δ,M,ev,j,g1⟩:=h
 refine ⟨ρ,δ,M,ev,j,g1.bind fun ρ1 H1 M1 xs dxs e1 j1 c1 g2=>?_⟩
 exact ⟨by rw [c1.len];exact g2.mkR_len,fun p hp=>(g2.eQ j1 c1 hp).2⟩⟩
end
section
variable {X:Cx}{E:XK}{mg:Str->Option Value}{ρ:Rh}{H:Hp}{M:Mo}
theorem Go.rdb {α β γ:Type}{rel:Rh->Hp->β->α->Prop}{Q:β->Hp->Prop}{f:Mo->Option γ}{k:γ->DM α} (g:Go mg E rel Q ρ H (L3.rd f >>= k) M):∃ a,f M=some a∧Go mg E rel Q ρ H (k a) M:=by
 obtain ⟨r,e,p⟩:=g
 have e:DM.bind _ _ M=some r:=e
 unfold DM.bind L3.rd at e
 cases h:f M with
 | none=>rw [h] at e;cases e
 | some a=>rw [h] at e;exact ⟨a,rfl,r,e,p⟩
theorem cz.of {f:Value->Value->Sem Value}{r:R2}{g:D->D->Mo->Option D} (hr:OpR X f r)
  (h:∀ x y H Q ρ M dx dy d,J X.mg ρ M H->Cv X.mg ρ H x dx->Cv X.mg ρ H y dy->g dx dy M=some d->(∀ ρ' H' v,Ext ρ H ρ' H'->J X.mg ρ' M H'->Cv X.mg ρ' H' v d->Q v H')->r x y H Q):cz X E f (fun x y=>rd (g x y)):=by
 intro pins s σ H x y v u Q I rx ry q
 obtain ⟨ρ,M,dx,dy,j,cx,cy,go⟩:=q
 obtain ⟨d,e,p⟩:=go.rd
 exact hr pins s σ H x y v u Q I rx ry (h x y H Q ρ M dx dy d j cx cy e p)
def bc:D->Mo->Option (List D)
 | .lst l,_=>some l
 | .ref n,M=>match M[n]? with
   | some (.lst l)=>some l
   | _=>none
 | _,_=>none
theorem dM (j:J mg ρ M H) {x:V}{d:D}{l:List D} (c:Cv mg ρ H x d) (e:bc d M=some l):∃ a xs,x=.ref a∧H a=some (.lst xs)∧Cvs mg ρ H xs l:=by
 cases c with
 | lst n h c=>cases e;exact ⟨_,_,rfl,h,c⟩
 | ref q=>
   unfold bc at e
   dsimp only at e
   split at e
   ·rename_i l' hl
    cases e
    obtain ⟨xs,h,c⟩:=j.obj _ _ _ q hl
    exact ⟨_,_,rfl,h,c⟩
   ·cases e
 | _=>cases e
theorem J.notup (j:J mg ρ M H) {p:Addr}{xs:List V} (h:H p=Option.some (HO.tup xs)):p∉ρ:=fun z=>by
 rcases z with z | z
 rotate_left
 ·obtain ⟨_,ys,e⟩:=j.vol p z
  rw [h] at e;cases e
 obtain ⟨n,hn⟩:=List.mem_iff_getElem?.mp z
 have lt:n<M.length:=by rw [←j.len];exact (List.getElem?_eq_some_iff.mp hn).1
 have c:=j.obj n p M[n] hn (List.getElem?_eq_getElem lt)
 cases hm:M[n] with
 | lst l=>rw [hm] at c;obtain ⟨xs,e,_⟩:=c;rw [h] at e;cases e
 | dic ks l=>rw [hm] at c;obtain ⟨xs,e,_⟩:=c;rw [h] at e;cases e
 | ins c' ns l=>rw [hm] at c;obtain ⟨_,_,_,_,e,_⟩:=c;rw [h] at e;cases e
def Gk (l:List D):Option D:=if fO l then some (.tup l) else none
def CG (l:List D):Option D:=if fO l then some (.lst l) else none
def eU:D->D->Mo->Option D
 | .int i,.int j,_=>some (.int (i + j))
 | .str a,.str b,_=>if a.length + b.length≤sizeLine then some (.str (a++b)) else none
 | .tup l,.tup m,_=>Gk (l++m)
 | x,y,M=>match bc x M,bc y M with
   | some l,some m=>CG (l++m)
   | _,_=>none
theorem ym {x y d:D}{M:Mo} (h:eU x y M=some d):(∃ i j,x=.int i∧y=.int j∧d=.int (i + j))∨(∃ a b,x=.str a∧y=.str b∧a.length + b.length≤sizeLine∧d=.str (a++b))∨(∃ l m,x=.tup l∧y=.tup m∧l.length + m.length≤sizeLine∧d=.tup (l++m)) ∨
  ∃ l m,bc x M=some l∧bc y M=some m∧l.length + m.length≤sizeLine∧d=.lst (l++m):=by
 unfold eU at h
 split at h
 ·cases h;exact .inl ⟨_,_,rfl,rfl,rfl⟩
 ·split at h
  ·cases h;exact .inr (.inl ⟨_,_,rfl,rfl,‹_›,rfl⟩)
  ·cases h
 ·obtain ⟨hz,rfl⟩:=pL h
  rw [List.length_append] at hz
  exact .inr (.inr (.inl ⟨_,_,rfl,rfl,hz,rfl⟩))
 ·split at h
  ·rename_i l m h1 h2
   obtain ⟨hz,rfl⟩:=pL h
   rw [List.length_append] at hz
   exact .inr (.inr (.inr ⟨l,m,h1,h2,hz,rfl⟩))
  ·cases h
theorem cJ:cz X E (binaryOp .Add) (fun x y=>rd (eU x y)):=by
 refine cz.of (op_add.or (op_add_str.or (Ai.or op_cat))) fun x y H Q ρ M dx dy d j cx cy e q=>?_
 rcases ym e with ⟨i,k,rfl,rfl,rfl⟩ | ⟨i,k,rfl,rfl,hz,rfl⟩ | ⟨l,m,rfl,rfl,hz,rfl⟩ | ⟨l,m,h1,h2,hz,rfl⟩
 ·cases cx;cases cy
  exact .inl ⟨_,_,rfl,rfl,q ρ H _ .refl j (.int _)⟩
 ·cases cx;cases cy
  exact .inr (.inl ⟨_,_,rfl,rfl,hz,q ρ H _ .refl j (.str _)⟩)
 ·cases cx with | tup n1 a1 c1=>cases cy with | tup n2 a2 c2=>
  refine .inr (.inr (.inl ⟨_,_,_,_,rfl,rfl,a1,a2,by rw [c1.len,c2.len];exact hz,fun p H' S hp=>?_⟩))
  exact q ρ H' _ (.same S) (j.same S) (.tup ((j.same S).notup hp) hp ((c1.append c2).mono (.same S)))
 ·obtain ⟨a1,x1,rfl,a2,c1⟩:=dM j cx h1
  obtain ⟨b1,y1,rfl,b2,c2⟩:=dM j cy h2
  refine .inr (.inr (.inr ⟨_,_,_,_,rfl,rfl,a2,b2,by rw [c1.len,c2.len];exact hz,fun p hp=>?_⟩))
  exact q ρ _ _ (.lay hp) (j.lay _ hp) (.lst (j.fresh hp) upd_same ((c1.append c2).mono (.lay hp)))
def cX (C:Int->Int->Bool) (g:Int->Int->D):D->D->Mo->Option D
 | .int i,.int j,_=>if C i j then some (g i j) else none
 | _,_,_=>none
theorem qi {C:Int->Int->Bool}{g:Int->Int->D}{x y d:D}{M:Mo} (h:cX C g x y M=some d):∃ i j,x=.int i∧y=.int j∧C i j=true∧d=g i j:=by
 unfold cX at h
 split at h
 ·split at h
  ·cases h;exact ⟨_,_,rfl,rfl,‹_›,rfl⟩
  ·cases h
 ·cases h
theorem nj {f:Value->Value->Sem Value}{C:Int->Int->Bool}{g:Int->Int->Int}{P:Int->Int->Prop} (hr:OpR X f (rI P fun i j=>.int (g i j))) (hc:∀ i j,C i j=true->P i j):cz X E f (fun x y=>rd (cX C (fun i j=>.int (g i j)) x y)):=
 cz.of hr fun x y H Q ρ M dx dy d j cx cy e q=>by
  obtain ⟨i,k,rfl,rfl,hh,rfl⟩:=qi e
  cases cx;cases cy
  exact ⟨_,_,rfl,rfl,hc _ _ hh,q ρ H _ .refl j (.int _)⟩
theorem oN {f:Value->Value->Sem Value}{g:Int->Int->Int} (hr:OpR X f (rI0 fun i j=>.int (g i j))):cz X E f (fun x y=>rd (cX (fun _ _=>true) (fun i j=>.int (g i j)) x y)):=
 cz.of hr fun x y H Q ρ M dx dy d j cx cy e q=>by
  obtain ⟨i,k,rfl,rfl,hh,rfl⟩:=qi e
  cases cx;cases cy
  exact ⟨_,_,rfl,rfl,q ρ H _ .refl j (.int _)⟩
theorem ni {f:Value->Value->Sem Value}{g:Int->Int->Bool} (hr:OpR X f (rI0 fun i j=>.bl (g i j))):cz X E f (fun x y=>rd (cX (fun _ _=>true) (fun i j=>.bl (g i j)) x y)):=
 cz.of hr fun x y H Q ρ M dx dy d j cx cy e q=>by
  obtain ⟨i,k,rfl,rfl,hh,rfl⟩:=qi e
  cases cx;cases cy
  exact ⟨_,_,rfl,rfl,q ρ H _ .refl j (.bl _)⟩
abbrev ux:D->D->Mo->Option D:=cX (fun _ _=>true) fun i j=>.int (i - j)
theorem fX:cz X E (binaryOp .Sub) (fun x y=>rd (ux x y)):=oN op_sub
def gj (i j:Int):Bool:=!(decide (Builtin.Int.intBits i > shortFactorBits) && decide (Builtin.Int.intBits j > shortFactorBits) && Builtin.Int.intTooBig (Builtin.Int.intBits i + Builtin.Int.intBits j))
theorem gj.ok {i j:Int} (h:gj i j=true):IntMulOk i j:=fun z=>by
 unfold gj at h
 rw [z] at h;cases h
abbrev tZ:D->D->Mo->Option D:=cX gj fun i j=>.int (i * j)
theorem qp:cz X E (binaryOp .Mult) (fun x y=>rd (tZ x y)):=nj Aj fun i j h=>gj.ok h
def m6 (i j:Int):Bool:=decide (0<j) && !Builtin.divisionGoesByPylong i j
theorem yP:OpR X (binaryOp .FloorDiv) (rI (fun i j=>m6 i j=true) fun i j=>.int (i / j)):=opI fun i j _ _ _ _ _ hc q=>by
 unfold m6 at hc
 have h0:0<j:=by
  have:=(Bool.and_eq_true _ _).mp hc
  exact of_decide_eq_true this.1
 have h1:Builtin.divisionGoesByPylong i j=false:=by
  have:=(Bool.and_eq_true _ _).mp hc
  simpa using this.2
 have e:i.fdiv j=i / j:=Int.fdiv_eq_ediv_of_nonneg i (Int.le_of_lt h0)
 exact floordiv_int (Int.ne_of_gt h0) (by rw [e];exact q) (.inl h1)
abbrev pD:D->D->Mo->Option D:=cX m6 fun i j=>.int (i / j)
theorem oO:cz X E (binaryOp .FloorDiv) (fun x y=>rd (pD x y)):=nj yP fun i j h=>h
abbrev oK:D->D->Mo->Option D:=cX (fun _ j=>decide (0<j)) fun i j=>.int (i % j)
theorem jE:cz X E (binaryOp .Mod) (fun x y=>rd (oK x y)):=nj op_mod fun i j h=>of_decide_eq_true h
def zF (i j:Int):Bool:=decide (0≤j∧j≤1000000∧i.natAbs<2 ^ 64)
abbrev vO:D->D->Mo->Option D:=cX zF fun i j=>.int (i ^ j.toNat)
theorem uV:cz X E (binaryOp .Pow) (fun x y=>rd (vO x y)):=nj op_pow fun i j h=>of_decide_eq_true (p:=0≤j∧j≤1000000∧i.natAbs<2 ^ 64) h
abbrev zE:D->D->Mo->Option D:=cX (fun _ _=>true) fun i j=>.bl (decide (i<j))
abbrev wZ:D->D->Mo->Option D:=cX (fun _ _=>true) fun i j=>.bl (decide (i≤j))
abbrev qL:D->D->Mo->Option D:=cX (fun _ _=>true) fun i j=>.bl (decide (j<i))
abbrev wO:D->D->Mo->Option D:=cX (fun _ _=>true) fun i j=>.bl (decide (j≤i))
theorem uc:cz X E (compareOp .Lt) (fun x y=>rd (zE x y)):=ni op_lt
theorem xr:cz X E (compareOp .LtE) (fun x y=>rd (wZ x y)):=ni op_le
theorem pK:cz X E (compareOp .Gt) (fun x y=>rd (qL x y)):=ni op_gt
theorem t7:cz X E (compareOp .GtE) (fun x y=>rd (wO x y)):=ni op_ge
def eqP (x y:D):Option Bool:=match toPy x,toPy y with
 | some p,some q=>if p.canLay0 && q.canLay0 && decide (p.depth≤60) then some (PyData.eqv p q) else none
 | _,_=>none
def eqB:D->D->Option Bool
 | .str a,.str b=>some (decide (a=b))
 | x,y=>eqP x y
def gA (x y:D) (_:Mo):Option D:=(eqB x y).map .bl
def lH (x y:D) (_:Mo):Option D:=(eqB x y).map fun b=>.bl (!b)
theorem BV {x y:D}{b:Bool} (h:eqP x y=some b):∃ p q,toPy x=some p∧toPy y=some q∧p.canLay0=true∧q.canLay0=true∧p.depth≤60∧b=PyData.eqv p q:=by
 unfold eqP at h
 split at h
 ·rename_i p q h1 h2
  split at h
  ·rename_i hc
   cases h
   simp only [Bool.and_eq_true,decide_eq_true_eq] at hc
   exact ⟨p,q,h1,h2,hc.1.1,hc.1.2,hc.2,rfl⟩
  ·cases h
 ·cases h
theorem BR {x y:D}{b:Bool} (h:eqB x y=some b):(∃ a c,x=.str a∧y=.str c∧b=decide (a=c))∨eqP x y=some b:=by
 unfold eqB at h
 split at h
 ·cases h;exact .inl ⟨_,_,rfl,rfl,rfl⟩
 ·exact .inr h
theorem Be {a c:Str}:decide (V.str a=V.str c)=decide (a=c):=by
 rw [Bool.eq_iff_iff];simp
theorem uU {f:Value->Value->Sem Value}{n:Bool} (h1:OpR X f (fun x y H Q=>scal x y=true∧Q (.bl (n ^^ decide (x=y))) H)) (h2:OpR X f (yV X.K n)):cz X E f (fun x y=>rd fun _=>(eqB x y).map fun b=>.bl (n ^^ b)):=by
 intro pins s σ H x y v u Q I rx ry q
 obtain ⟨ρ,M,dx,dy,j,cx,cy,g⟩:=q
 obtain ⟨d,e,q⟩:=Go.rd g
 obtain ⟨b,hb,rfl⟩:=Option.map_eq_some_iff.mp e
 rcases BR hb with ⟨a,c,rfl,rfl,rfl⟩ | hb
 ·cases cx;cases cy
  refine h1 pins s σ H _ _ v u Q I rx ry ⟨rfl,?_⟩
  rw [Be]
  exact q ρ H _ .refl j (.bl _)
 ·obtain ⟨p,p',k1,k2,h3,h4,h5,rfl⟩:=BV hb
  refine h2 pins s σ H x y v u Q I rx ry ⟨p,p',(cx.repF k1).toRep,(cy.repF k2).toRep,h3,h4,h5,?_⟩
  have:=q ρ H _ .refl j (.bl _)
  cases n
  ·simpa using this
  ·simpa using this
theorem gZ (hu:X.A.units + 64<cLine):cz X E (compareOp .Eq) (fun x y=>rd (gA x y)):=by
 have h:=uU (X:=X) (E:=E) (n:=false) (f:=compareOp .Eq) (fun pins s σ H x y v u Q I rx ry q=>op_eq (X:=X) pins s σ H x y v u Q I rx ry ⟨q.1,by simpa using q.2⟩) (CT hu)
 have e:(fun x y=>(rd (gA x y):DM D))=fun x y=>rd fun _=>(eqB x y).map fun b=>.bl (false ^^ b):=by
  funext x y
  show rd _=rd _
  congr 1
  funext M
  simp only [gA,Bool.false_xor,Bool.true_xor]
 rw [e];exact h
theorem dX (hu:X.A.units + 64<cLine):cz X E (compareOp .NotEq) (fun x y=>rd (lH x y)):=by
 have h:=uU (X:=X) (E:=E) (n:=true) (f:=compareOp .NotEq) (fun pins s σ H x y v u Q I rx ry q=>op_ne (X:=X) pins s σ H x y v u Q I rx ry ⟨q.1,by simpa using q.2⟩) (CV hu)
 have e:(fun x y=>(rd (lH x y):DM D))=fun x y=>rd fun _=>(eqB x y).map fun b=>.bl (true ^^ b):=by
  funext x y
  show rd _=rd _
  congr 1
  funext M
  simp only [lH,Bool.false_xor,Bool.true_xor]
 rw [e];exact h
def Fg:D->Bool
 | .non=>true
 | _=>false
theorem Ci {x:V}{d:D} (c:Cv mg ρ H x d):decide (x=.non)=Fg d:=by cases c<;>rfl
def vH (x y:D) (_:Mo):Option D:=match y with
 | .non=>some (.bl (!Fg x))
 | .bl c=>match x with
   | .bl b=>some (.bl (!(b == c)))
   | _=>none
 | _=>none
theorem yR:cz X E (compareOp .IsNot) (fun x y=>rd (vH x y)):=cz.of (op_notN.or Ak) fun x y H Q ρ M dx dy d j cx cy e q=>by
 unfold vH at e
 split at e
 ·cases e;cases cy
  exact .inl ⟨rfl,by rw [Ci cx];exact q ρ H _ .refl j (.bl _)⟩
 ·split at e
  ·cases e;cases cx;cases cy
   exact .inr ⟨_,_,rfl,rfl,q ρ H _ .refl j (.bl _)⟩
  ·cases e
 ·cases e
theorem Cvs.rep {v:V}{d:D} (c:Cv mg ρ H v d):∀ n,Cvs mg ρ H (List.replicate n v) (List.replicate n d)
 | 0=>.nil
 | n + 1=>.cons c (Cvs.rep c n)
def vQ (l:List D) (k:Int):Option (List D):=if decide (-(2 ^ 63)≤k∧k<2 ^ 63∧l.length * k.toNat≤sizeLine) then some (List.replicate k.toNat l).flatten else none
theorem Cvs.reps {vs:List V}{ds:List D} (c:Cvs mg ρ H vs ds):∀ n,Cvs mg ρ H (List.replicate n vs).flatten (List.replicate n ds).flatten
 | 0=>.nil
 | n + 1=>by rw [List.replicate_succ,List.replicate_succ,List.flatten_cons,List.flatten_cons];exact c.append (Cvs.reps c n)
def t6 (x y:D) (M:Mo):Option (List D):=match bc x M,y with
 | some l,.int k=>vQ l k
 | _,_=>none
theorem Ag {x y:D}{l:List D} (h:t6 x y M=some l):∃ m k,bc x M=some m∧y=.int k∧(-(2 ^ 63)≤k∧k<2 ^ 63∧m.length * k.toNat≤sizeLine)∧l=(List.replicate k.toNat m).flatten:=by
 unfold t6 at h
 split at h
 ·rename_i m k h1
  unfold vQ at h
  split at h
  ·rename_i hk
   cases h
   exact ⟨m,k,h1,rfl,of_decide_eq_true hk,rfl⟩
  ·cases h
 ·cases h
def vK (x y:D):DM D:=rd (t6 x y) >>= eQ
theorem qt:cz X E (binaryOp .Mult) vK:=by
 intro pins s σ H x y v u Q I rx ry q
 obtain ⟨ρ,M,dx,dy,j,cx,cy,go⟩:=q
 obtain ⟨l,e1,g⟩:=Go.rdb go
 obtain ⟨m,k,h1,rfl,⟨h2,h3,h4⟩,rfl⟩:=Ag e1
 obtain ⟨a,xs,rfl,ha,c⟩:=dM j cx h1
 cases cy
 exact op_rep (X:=X) pins s σ H _ _ v u Q I rx ry ⟨_,_,_,rfl,rfl,ha,h2,h3,by rw [c.len];exact h4,fun p hp=>(g.eQ j (Cvs.reps c _) hp).2⟩
def FW:D->Mo->Option D
 | .int i,_=>some (.int (-i))
 | _,_=>none
theorem Cvs.at {vs:List V}{ds:List D}{i:Int}{d:D} (c:Cvs mg ρ H vs ds) (h:atI ds i=some d):∃ v,atI vs i=some v∧Cv mg ρ H v d:=by
 unfold atI at h ⊢
 rw [c.len]
 obtain ⟨n,hn,e⟩:=Option.bind_eq_some_iff.mp h
 obtain ⟨v,e2,cv⟩:=c.get e
 exact ⟨v,by rw [hn];exact e2,cv⟩
def dI:D->D->Mo->Option D
 | .tup l,.int i,_=>atI l i
 | .scr l,.int i,_=>(atI l i).map .int
 | x,.int i,M=>(bc x M).bind fun l=>atI l i
 | _,_,_=>none
def Fe (X:Cx) (E:XK) (g:D->D->DM D):Prop:=IxR X (rD X.mg E g)
theorem aQ:Fe X E (fun x y=>rd (dI x y)):=by
 intro value slice pins s σ H x y v u Q I rx ry q hs
 obtain ⟨ρ,M,dx,dy,j,cx,cy,go⟩:=q
 obtain ⟨d,e,p⟩:=go.rd
 unfold dI at e
 split at e
 ·cases cy
  cases cx with | tup n a c=>
  obtain ⟨w,e2,cw⟩:=c.at e
  exact ix_tup (X:=X) value slice pins s σ H _ _ v u Q I rx ry ⟨_,_,_,_,rfl,rfl,SqT.of a,e2,p ρ H _ .refl j cw⟩ hs
 ·rename_i l i
  cases cy
  cases cx with | scr n a=>
  obtain ⟨z,e1,rfl⟩:=Option.map_eq_some_iff.mp e
  have e2:atI (l.map V.int) i=some (V.int z):=by
   unfold atI at e1 ⊢
   rw [List.length_map]
   obtain ⟨n,hn,e⟩:=Option.bind_eq_some_iff.mp e1
   rw [hn]
   show (List.map V.int _)[n]?=_
   rw [List.getElem?_map,e];rfl
  exact ix_list (X:=X) value slice pins s σ H _ _ v u Q I rx ry ⟨_,_,_,_,rfl,rfl,.inl a,e2,p ρ H _ .refl j (.int z)⟩ hs
 ·cases cy
  obtain ⟨l,h1,e1⟩:=Option.bind_eq_some_iff.mp e
  obtain ⟨a,xs,rfl,ha,c⟩:=dM j cx h1
  obtain ⟨w,e2,cw⟩:=c.at e1
  exact ix_list (X:=X) value slice pins s σ H _ _ v u Q I rx ry ⟨_,_,_,_,rfl,rfl,SqL.of ha,e2,p ρ H _ .refl j cw⟩ hs
 ·cases e
theorem aG {a b:Expr}{fa fb:aa->DM D}{pos:Pos}{g:D->D->DM D} (hi:Fe X E g) (ha:DE X E a fa) (hb:DE X E b fb) (hs:PlainIx b:=by exact fun _ _=>rfl):DE X E (.Subscript a b pos) (fun δ=>fa δ >>= fun x=>fb δ >>= fun y=>g x y):=
 ⟨PE.mono (pe_ix hi ha.h hb.h hs) fun σ H Q h=>zx (fun _ _ _ _ z=>z) h⟩
def Bu:D->DM (Option Int)
 | .int i=>pure (some i)
 | _=>stuck
def cutD (xs:List D) (lo hi:Option Int):List D:=(xs.drop (HT.sIx xs.length 0 lo)).take (HT.sIx xs.length xs.length hi - HT.sIx xs.length 0 lo)
theorem Cvs.cut {vs:List V}{ds:List D} (c:Cvs mg ρ H vs ds) (lo hi:Option Int):Cvs mg ρ H (cutV vs lo hi) (cutD ds lo hi):=by
 unfold cutV cutD
 rw [c.len]
 exact (c.drop _).take _
structure DP (X:Cx) (E:XK) (e:Option Expr) (f:aa->DM (Option Int)):Prop where
 h:PO X e (tD X.mg E (fun _ _ (b a:Option Int)=>b=a) f)
theorem PO.mono {e:Option Expr}{t t':TO} (h:PO X e t) (f:∀ σ H Q,t' σ H Q->t σ H Q):PO X e t':=fun pins s σ H Q I q=>h pins s σ H Q I (f σ H Q q)
theorem uL {a:Expr}{fa:aa->DM D} (ha:DE X E a fa):DP X E (some a) (fun δ=>fa δ >>= Bu):=⟨PO.mono (po_some ha.h) fun σ H Q h=>by
 obtain ⟨ρ,δ,M,ev,j,g1⟩:=h
 refine ⟨ρ,δ,M,ev,j,g1.bind fun ρ1 H1 M1 x dx e1 j1 c1 g2=>?_⟩
 cases dx with
 | int i=>cases c1;exact ⟨i,rfl,Go.pure (a:=some i) g2 ρ1 H1 _ .refl j1 rfl⟩
 | _=>obtain ⟨r,e,_⟩:=g2;cases e⟩
end
inductive Fl where
 | nx (δ:aa) | rt (d:D) | bk (δ:aa) | ct (δ:aa)
def oY (mg:Str->Option Value) (ρ:Rh) (H:Hp) (D:Ends) (E:XK):R Fl×Mo->Prop
 | (.ok (.nx δ'),M')=>∀ ρ' H' σ',Ext ρ H ρ' H'->J mg ρ' M' H'->Ev mg ρ' H' σ' δ'->D.nx σ' H'
 | (.ok (.bk δ'),M')=>∀ ρ' H' σ',Ext ρ H ρ' H'->J mg ρ' M' H'->Ev mg ρ' H' σ' δ'->D.bk σ' H'
 | (.ok (.ct δ'),M')=>∀ ρ' H' σ',Ext ρ H ρ' H'->J mg ρ' M' H'->Ev mg ρ' H' σ' δ'->D.ct σ' H'
 | (.ok (.rt d),M')=>∀ ρ' H' v,Ext ρ H ρ' H'->J mg ρ' M' H'->Cv mg ρ' H' v d->D.rt v H'
 | (.exc c,M')=>∀ ρ' H' C,Ext ρ H ρ' H'->J mg ρ' M' H'->mg c=some (.ref C)->E (.ref C) none H'
def bx (mg:Str->Option Value) (E:XK) (D:Ends) (ρ:Rh) (H:Hp) (m:DM Fl) (M:Mo):Prop:=∃ r,m M=some r∧oY mg ρ H D E r
section
variable {mg:Str->Option Value}{ρ ρ':Rh}{H H':Hp}{E:XK}{α β:Type}{rel:Rh->Hp->β->α->Prop}{D D':Ends}{Q':β->Hp->Prop}{M:Mo}
theorem oY.mono {r:R Fl×Mo} (e:Ext ρ H ρ' H') (h:oY mg ρ H D E r):oY mg ρ' H' D E r:=by
 obtain ⟨r,M'⟩:=r
 cases r with
 | ok a=>cases a<;>exact fun ρ2 H2 b e2 j c=>h ρ2 H2 b (e.trans e2) j c
 | exc c=>exact fun ρ2 H2 C e2 j m=>h ρ2 H2 C (e.trans e2) j m
theorem bx.bind {m:DM α}{k:α->DM Fl} (g:bx mg E D ρ H (m >>= k) M)
  (f:∀ ρ1 H1 M1 b a,Ext ρ H ρ1 H1->J mg ρ1 M1 H1->rel ρ1 H1 b a->bx mg E D ρ1 H1 (k a) M1->Q' b H1):Go mg E rel Q' ρ H m M:=by
 obtain ⟨r,e,p⟩:=g
 have e:DM.bind m k M=some r:=e
 unfold DM.bind at e
 split at e
 ·cases e
 ·rename_i c M' em
  cases e
  exact ⟨_,em,p⟩
 ·rename_i a M' em
  exact ⟨_,em,fun ρ1 H1 b x j c=>f ρ1 H1 M' b a x j c ⟨r,e,p.mono x⟩⟩
theorem bx.pure {a:Fl} (g:bx mg E D ρ H (pure a) M):oY mg ρ H D E (.ok a,M):=by
 obtain ⟨r,e,p⟩:=g
 have e:some (R.ok a,M)=some r:=e
 cases e
 exact p
def vU (f g:aa->DM Fl):aa->DM Fl:=fun δ=>f δ >>= fun r=>match r with
 | .nx δ'=>g δ'
 | r=>Pure.pure r
theorem bx.seq {f:DM Fl}{k:Fl->DM Fl} (g:bx mg E D ρ H (f >>= k) M)
  (hn:∀ δ' ρ1 H1 M1 σ1,Ext ρ H ρ1 H1->J mg ρ1 M1 H1->Ev mg ρ1 H1 σ1 δ'->bx mg E D ρ1 H1 (k (.nx δ')) M1->D'.nx σ1 H1)
  (hb:∀ δ' ρ1 H1 M1 σ1,Ext ρ H ρ1 H1->J mg ρ1 M1 H1->Ev mg ρ1 H1 σ1 δ'->bx mg E D ρ1 H1 (k (.bk δ')) M1->D'.bk σ1 H1)
  (hc:∀ δ' ρ1 H1 M1 σ1,Ext ρ H ρ1 H1->J mg ρ1 M1 H1->Ev mg ρ1 H1 σ1 δ'->bx mg E D ρ1 H1 (k (.ct δ')) M1->D'.ct σ1 H1)
  (hr:∀ d ρ1 H1 M1 v,Ext ρ H ρ1 H1->J mg ρ1 M1 H1->Cv mg ρ1 H1 v d->bx mg E D ρ1 H1 (k (.rt d)) M1->D'.rt v H1):bx mg E D' ρ H f M:=by
 obtain ⟨r,e,p⟩:=g
 have e:DM.bind f k M=some r:=e
 unfold DM.bind at e
 split at e
 ·cases e
 ·rename_i c M' em
  cases e
  exact ⟨_,em,p⟩
 ·rename_i a M' em
  refine ⟨_,em,?_⟩
  cases a with
  | nx δ'=>exact fun ρ1 H1 b x j c=>hn δ' ρ1 H1 M' b x j c ⟨r,e,p.mono x⟩
  | bk δ'=>exact fun ρ1 H1 b x j c=>hb δ' ρ1 H1 M' b x j c ⟨r,e,p.mono x⟩
  | ct δ'=>exact fun ρ1 H1 b x j c=>hc δ' ρ1 H1 M' b x j c ⟨r,e,p.mono x⟩
  | rt d=>exact fun ρ1 H1 b x j c=>hr d ρ1 H1 M' b x j c ⟨r,e,p.mono x⟩
end
def tS (mg:Str->Option Value) (E:XK) (f:aa->DM Fl):TS:=fun D σ H=>∃ ρ δ M,Ev mg ρ H σ δ∧J mg ρ M H∧bx mg E D ρ H (f δ) M
structure DS (X:Cx) (E:XK) (st:Stmt) (f:aa->DM Fl):Prop where
 h:PS X st (tS X.mg E f)
structure DSs (X:Cx) (E:XK) (st:List Stmt) (f:aa->DM Fl):Prop where
 h:PSs X st (tS X.mg E f)
theorem PS.mono {X:Cx}{e:Stmt}{t t':TS} (h:PS X e t) (f:∀ D σ H,t' D σ H->t D σ H):PS X e t':=fun pins s σ H D I q=>h pins s σ H D I (f D σ H q)
theorem PSs.mono {X:Cx}{e:List Stmt}{t t':TS} (h:PSs X e t) (f:∀ D σ H,t' D σ H->t D σ H):PSs X e t':=fun pins s σ H D I q=>h pins s σ H D I (f D σ H q)
section
variable {X:Cx}{E:XK}{st:Stmt}{rest:List Stmt}{f g:aa->DM Fl}{e:Expr}{fe:aa->DM D}{pos:Pos}
theorem bH:DSs X E [] (fun δ=>pure (.nx δ)):=⟨PSs.mono pss_nil fun D σ H h=>by
 obtain ⟨ρ,δ,M,ev,j,g⟩:=h
 exact g.pure ρ H σ .refl j ev⟩
theorem az (h:DS X E st f):DSs X E [st] f:=⟨pss_one h.h⟩
theorem aq (h1:DS X E st f) (h2:DSs X E rest g):DSs X E (st::rest) (vU f g):=⟨PSs.mono (pss_cons h1.h h2.h) fun D σ H h=>by
 obtain ⟨ρ,δ,M,ev,j,g1⟩:=h
 refine ⟨ρ,δ,M,ev,j,g1.seq (fun δ' ρ1 H1 M1 σ1 e1 j1 ev1 g2=>⟨ρ1,δ',M1,ev1,j1,g2⟩) (fun δ' ρ1 H1 M1 σ1 e1 j1 ev1 g2=>?_) (fun δ' ρ1 H1 M1 σ1 e1 j1 ev1 g2=>?_) (fun d ρ1 H1 M1 v e1 j1 c1 g2=>?_)⟩
 ·exact bx.pure g2 ρ1 H1 σ1 .refl j1 ev1
 ·exact bx.pure g2 ρ1 H1 σ1 .refl j1 ev1
 ·exact bx.pure g2 ρ1 H1 v .refl j1 c1⟩
theorem aJ (he:DE X E e fe):DS X E (.Return (some e) pos) (fun δ=>fe δ >>= fun d=>pure (.rt d)):=⟨PS.mono (L2.ps_ret he.h) fun D σ H h=>by
 obtain ⟨ρ,δ,M,ev,j,g1⟩:=h
 exact ⟨ρ,δ,M,ev,j,g1.bind fun ρ1 H1 M1 v d e1 j1 c1 g2=>g2.pure ρ1 H1 v .refl j1 c1⟩⟩
theorem zW (he:DE X E e fe) (hs:swapsWith e none pos.line X.env=pure false:=by rfl):DS X E (.Expr e pos) (fun δ=>fe δ >>= fun _=>pure (.nx δ)):=⟨PS.mono (ps_expr he.h hs) fun D σ H h=>by
 obtain ⟨ρ,δ,M,ev,j,g1⟩:=h
 exact ⟨ρ,δ,M,ev,j,g1.bind fun ρ1 H1 M1 v d e1 j1 c1 g2=>g2.pure ρ1 H1 σ .refl j1 (ev.mono e1)⟩⟩
theorem bA {i:Nat}{x:Str}{pos':Pos} (hN:X.N.Nodup) (hi:X.N[i]?=some x) (hx:Loc X.env.scope x) (he:DE X E e fe) (hs:swapsWith e (some (.Name x pos')) pos.line X.env=pure false:=by rfl) (hf:X.fn x=true∨X.env.scope.names.lookup x=some .local:=by first | exact .inl rfl | exact .inr rfl | assumption) :
  DS X E (.Assign [.Name x pos'] e pos) (fun δ=>fe δ >>= fun d=>pure (.nx (δ.set i (some d)))):=⟨PS.mono (ps_set hN hi hx he.h hs hf) fun D σ H h=>by
 obtain ⟨ρ,δ,M,ev,j,g1⟩:=h
 exact ⟨ρ,δ,M,ev,j,g1.bind fun ρ1 H1 M1 v d e1 j1 c1 g2=>g2.pure ρ1 H1 _ .refl j1 ((ev.mono e1).set c1)⟩⟩
theorem cH {c:Expr}{a b:List Stmt}{tc:aa->DM Bool} (hc:DT X E c tc) (ha:DSs X E a f) (hb:DSs X E b g):DS X E (.If c a b pos) (fun δ=>tc δ >>= fun k=>if k then f δ else g δ):=⟨PS.mono (L2.ps_if hc.h ha.h hb.h) fun D σ H h=>by
 obtain ⟨ρ,δ,M,ev,j,g1⟩:=h
 refine ⟨ρ,δ,M,ev,j,g1.bind fun ρ1 H1 M1 x dx e1 j1 c1 g2=>?_⟩
 have c1:x=dx:=c1
 subst c1
 cases x with
 | true=>exact iteT ⟨ρ1,δ,M1,ev.mono e1,j1,g2⟩
 | false=>exact iteF ⟨ρ1,δ,M1,ev.mono e1,j1,g2⟩⟩
def tG (mg:Str->Option Value) (E:XK) (fg:D->aa->DM aa):TG:=fun v σ H Q=>∃ ρ δ M d,Ev mg ρ H σ δ∧J mg ρ M H∧Cv mg ρ H v d∧Go mg E (Ev mg) Q ρ H (fg d δ) M
def Hd (mg:Str->Option Value) (E:XK) (fg:List D->aa->DM aa):TGs:=fun vs σ H Q=>∃ ρ δ M ds,Ev mg ρ H σ δ∧J mg ρ M H∧Cvs mg ρ H vs ds∧Go mg E (Ev mg) Q ρ H (fg ds δ) M
structure DG (X:Cx) (E:XK) (tg:Expr) (fg:D->aa->DM aa):Prop where
 h:PG X tg (tG X.mg E fg)
structure DGs (X:Cx) (E:XK) (tg:List Expr) (fg:List D->aa->DM aa):Prop where
 h:PGs X tg (Hd X.mg E fg)
theorem PG.mono {tg:Expr}{t t':TG} (h:PG X tg t) (f:∀ v σ H Q,t' v σ H Q->t v σ H Q):PG X tg t':=fun pins s σ H v u Q I r q=>h pins s σ H v u Q I r (f v σ H Q q)
theorem PGs.mono {tg:List Expr}{t t':TGs} (h:PGs X tg t) (f:∀ v σ H Q,t' v σ H Q->t v σ H Q):PGs X tg t':=fun pins s σ H v u Q I r q=>h pins s σ H v u Q I r (f v σ H Q q)
def gN (i:Nat):D->aa->DM aa:=fun d δ=>pure (δ.set i (some d))
theorem aA {i:Nat}{x:Str} (hN:X.N.Nodup) (hi:X.N[i]?=some x) (hx:Loc X.env.scope x) (hf:X.fn x=true∨X.env.scope.names.lookup x=some .local:=by first | exact .inl rfl | exact .inr rfl | assumption):DG X E (.Name x pos) (gN i):=
 ⟨PG.mono (pg_name hN hi hx hf) fun v σ H Q h=>by
  obtain ⟨ρ,δ,M,d,ev,j,c,g1⟩:=h
  exact Go.pure g1 ρ H _ .refl j (ev.set c)⟩
def zy:List D->aa->DM aa
 | [],δ=>pure δ
 | _,_=>stuck
def wR (f:D->aa->DM aa) (fs:List D->aa->DM aa):List D->aa->DM aa
 | d::l,δ=>f d δ >>= fun δ'=>fs l δ'
 | _,_=>stuck
theorem dW:DGs X E [] zy:=⟨PGs.mono pgs_nil fun vs σ H Q h=>by
 obtain ⟨ρ,δ,M,ds,ev,j,c,g1⟩:=h
 cases c with
 | nil=>exact ⟨rfl,Go.pure (a:=δ) g1 ρ H σ .refl j ev⟩
 | cons _ _=>obtain ⟨r,e,_⟩:=g1;cases e⟩
theorem bw {es:List Expr}{fg:D->aa->DM aa}{fgs:List D->aa->DM aa} (h1:DG X E e fg) (h2:DGs X E es fgs) (hs:(assignEach (e::es) X.env).map (·.2)=assign e X.env::(assignEach es X.env).map (·.2):=by rfl):DGs X E (e::es) (wR fg fgs):=
 ⟨PGs.mono (pgs_cons h1.h h2.h hs) fun vs σ H Q h=>by
  obtain ⟨ρ,δ,M,ds,ev,j,c,g1⟩:=h
  cases c with
  | nil=>obtain ⟨r,e,_⟩:=g1;cases e
  | cons c1 c2=>
    have g1:Go X.mg E (Ev X.mg) Q ρ H (fg _ δ >>= fun δ'=>fgs _ δ') M:=g1
    exact ⟨_,_,rfl,ρ,δ,M,_,ev,j,c1,g1.bind fun ρ1 H1 M1 σ1 δ1 e1 j1 ev1 g2=>⟨ρ1,δ1,M1,_,ev1,j1,c2.mono e1,g2⟩⟩⟩
def gT (n:Nat) (fs:List D->aa->DM aa):D->aa->DM aa
 | .tup l,δ=>if l.length=n then fs l δ else stuck
 | _,_=>stuck
theorem fG {es:List Expr}{k:Nat}{n:Nat}{fgs:List D->aa->DM aa} (hc:X.calm=true) (h:DGs X E es fgs) (hn:(assignEach es X.env).length=n:=by rfl) (hst:(assignEach es X.env).findIdx? (·.1)=none:=by rfl):DG X E (.Tuple es k pos) (gT n fgs):=
 ⟨PG.mono (pg_tup hc h.h hn hst) fun v σ H Q h=>by
  obtain ⟨ρ,δ,M,d,ev,j,c,g1⟩:=h
  cases c with
  | tup nx a c=>
    have g1:Go X.mg E (Ev X.mg) Q ρ H (if _ then _ else _) M:=g1
    split at g1
    ·rename_i hl
     exact ⟨_,_,rfl,SqT.of a,by rw [c.len];exact hl,ρ,δ,M,_,ev,j,c,g1⟩
    ·obtain ⟨r,e,_⟩:=g1;cases e
  | _=>obtain ⟨r,e,_⟩:=g1;cases e⟩
def iM:D->D->D->DM Unit
 | .ref n,.int k,v=>fun M=>match M[n]? with
   | some (.lst l)=>match ixN l.length k with
     | some j=>some (.ok (),M.set n (.lst (l.set j v)))
     | none=>none
   | _=>none
 | _,_,_=>stuck
def zG (mg:Str->Option Value) (E:XK) (gs:D->D->D->DM Unit):TSet:=fun o i v H Q=>∃ ρ M dO di dv,J mg ρ M H∧Cv mg ρ H o dO∧Cv mg ρ H i di∧Cv mg ρ H v dv∧Go mg E (fun _ _ (_:Unit) (_:Unit)=>True) (fun _ H'=>Q H') ρ H (gs dO di dv) M
theorem jm:PSet X (zG X.mg E iM):=by
 intro pins s σ H o i v ov iv u Q I ro ri rv h
 obtain ⟨ρ,M,dO,di,dv,j,co,ci,cv,r,e,p⟩:=h
 cases co with
 | ref hn=>
   cases ci with
   | int k=>
     rename_i n a
     have e:(match M[n]? with
      | some (.lst l)=>match ixN l.length k with
        | some j=>some (R.ok (),M.set n (.lst (l.set j dv)))
        | none=>none
      | _=>none)=some r:=e
     split at e
     ·rename_i l hl
      split at e
      ·rename_i q hq
       cases e
       obtain ⟨xs,hx,c⟩:=j.obj _ _ _ hn hl
       have x:Ext ρ H ρ (upd H a (.lst (xs.set q v))):=.upd (List.mem_of_getElem? hn)
       exact set_list (X:=X) pins s σ H _ _ v ov iv u Q I ro ri rv ⟨_,_,_,q,rfl,rfl,hx,by rw [c.len];exact hq,p ρ _ () x (j.upd hn ⟨_,upd_same,(c.set cv q).mono x⟩) trivial⟩
      ·cases e
     ·cases e
   | _=>cases e
 | _=>cases e
theorem iw {o i:Expr}{fo fi:aa->DM D}{gs:D->D->D->DM Unit} (ho:DE X E o fo) (hi:DE X E i fi) (hs:PSet X (zG X.mg E gs))
  (ha:∀ v,assign (.Subscript o i pos) X.env v=(do
    let ov ←holding [v] (eval o X.env)
    let iv ←holding [v,ov] (eval i X.env)
    standAt pos
    holding [v,ov,iv] (setItem ov iv v)
    release [v,ov,iv] []):=by intro _;rfl):DG X E (.Subscript o i pos) (fun d δ=>fo δ >>= fun o=>fi δ >>= fun i=>gs o i d >>= fun _=>pure δ):=
 ⟨PG.mono (pg_sub ho.h hi.h hs ha) fun v σ H Q h=>by
  obtain ⟨ρ,δ,M,d,ev,j,c,g1⟩:=h
  exact ⟨ρ,δ,M,ev,j,g1.bind fun ρ1 H1 M1 x dx e1 j1 c1 g2=>⟨ρ1,δ,M1,ev.mono e1,j1,g2.bind fun ρ2 H2 M2 y dy e2 j2 c2 g3=>⟨ρ2,M2,dx,dy,d,j2,c1.mono e2,c2,(c.mono e1).mono e2,g3.bind fun ρ3 H3 M3 _ _ e3 j3 _ g4=>g4.pure ρ3 H3 σ .refl j3 (((ev.mono e1).mono e2).mono e3)⟩⟩⟩⟩
theorem iy {tg:Expr}{fg:D->aa->DM aa} (he:DE X E e fe) (hg:DG X E tg fg) (hs:swapsWithSole [tg] e pos.line X.env=pure false:=by rfl) (hw:swappedStores [tg] e X.env=pure none:=by rfl)
  (h1:(assignEach [tg] X.env).map (·.2)=[assign tg X.env]:=by rfl):DS X E (.Assign [tg] e pos) (fun δ=>fe δ >>= fun d=>fg d δ >>= fun δ'=>pure (.nx δ')):=⟨PS.mono (ps_asg he.h hg.h hs hw h1) fun D σ H h=>by
 obtain ⟨ρ,δ,M,ev,j,g1⟩:=h
 exact ⟨ρ,δ,M,ev,j,g1.bind fun ρ1 H1 M1 v d e1 j1 c1 g2=>⟨ρ1,δ,M1,d,ev.mono e1,j1,c1,g2.bind fun ρ2 H2 M2 σ2 δ2 e2 j2 ev2 g3=>g3.pure ρ2 H2 σ2 .refl j2 ev2⟩⟩⟩
def CW (i j:Nat) (fa:aa->DM (List D)):aa->DM Fl:=fun δ=>fa δ >>= fun l=>match l with
 | [v,w]=>pure (.nx ((δ.set i (some v)).set j (some w)))
 | _=>stuck
theorem wL {i j:Nat}{x y:Str}{a b:Expr}{fa:aa->DM (List D)}{px py pt:Pos}{kt k2 pt2} (hc:X.calm=true) (hN:X.N.Nodup) (hi:X.N[i]?=some x) (hj:X.N[j]?=some y) (hij:i≠j)
  (hx:X.env.scope.names.lookup x=some .local) (hy:X.env.scope.names.lookup y=some .local) (ha:DA X E [a,b] fa)
  (hw:swappedStores [.Tuple [.Name x px,.Name y py] kt pt] (.Tuple [a,b] k2 pt2) X.env=pure (some [x,y]))
  (hs:swapsWithSole [.Tuple [.Name x px,.Name y py] kt pt] (.Tuple [a,b] k2 pt2) pos.line X.env=pure false:=by rfl) :
  DS X E (.Assign [.Tuple [.Name x px,.Name y py] kt pt] (.Tuple [a,b] k2 pt2) pos) (CW i j fa):=⟨PS.mono (ps_par hc hN hi hj hij hx hy ha.h.h hw hs) fun D σ H h=>by
 obtain ⟨ρ,δ,M,ev,j,g1⟩:=h
 refine ⟨ρ,δ,M,ev,j,bx.bind g1 fun ρ1 H1 M1 v d e1 j1 c1 g2=>?_⟩
 cases c1 with
 | nil=>obtain ⟨r,e,_⟩:=g2;cases e
 | cons c1 c2=>cases c2 with
   | nil=>obtain ⟨r,e,_⟩:=g2;cases e
   | cons c2 c3=>cases c3 with
     | nil=>exact ⟨_,_,rfl,bx.pure (a:=.nx _) g2 ρ1 H1 _ .refl j1 (((ev.mono e1).set c1).set c2)⟩
     | cons _ _=>obtain ⟨r,e,_⟩:=g2;cases e⟩
theorem yQ:cz X E (inplaceOp .Add) (fun x y=>rd (cX (fun _ _=>true) (fun i j=>.int (i + j)) x y)):=oN iop_add
theorem t8:cz X E (inplaceOp .Sub) (fun x y=>rd (ux x y)):=oN iop_sub
end
inductive Itn where
 | fix (l:List D) | dyn (n:Nat)
def Itn.next:Itn->Nat->Mo->Option (Option D)
 | .fix l,i,_=>some l[i]?
 | .dyn n,i,M=>match M[n]? with
   | some (.lst l)=>some l[i]?
   | _=>none
structure ItOk (mg:Str->Option Value) (ρ:Rh) (H:Hp) (Jt:It) (it:Itn):Prop where
 item:∀ (i:Nat) ρ' H' M' d,Kp ρ H ρ' H'->J mg ρ' M' H'->it.next i M'=some (some d)->Jt.go i H'∧∀ x H2,Jt.yld i H' x H2->Ext ρ' H' ρ' H2∧J mg ρ' M' H2∧Cv mg ρ' H2 x d
 stop:∀ (i:Nat) ρ' H' M',Kp ρ H ρ' H'->J mg ρ' M' H'->it.next i M'=some none->Jt.stop i H'
def tI (mg:Str->Option Value) (E:XK) (fi:aa->DM Itn):TI:=fun σ H R=>tD mg E (ItOk mg) fi σ H R
structure DI (X:Cx) (E:XK) (tg it:Expr) (fi:aa->DM Itn):Prop where
 h:PI X tg it (tI X.mg E fi)
theorem PI.mono {X:Cx}{tg e:Expr}{t t':TI} (h:PI X tg e t) (f:∀ σ H Q,t' σ H Q->t σ H Q):PI X tg e t':=fun pins s σ H Q I q=>h pins s σ H Q I (f σ H Q q)
theorem Ck {K:PySem.W.Frag}{mg:Str->Option Value}{ρ:Rh}{H:Hp}{a:Addr}{xs:List V}{ds:List D} (n:a∉ρ) (h:H a=some (.lst xs)) (c:Cvs mg ρ H xs ds):ItOk mg ρ H (Itl K a) (.fix ds) where
 item:=fun i ρ' H' M' d e j q=>by
  have hq:ds[i]?=some d:=Option.some.inj q
  obtain ⟨v,hv,cv⟩:=c.get hq
  have h':=(e.keep _ _ h n).2
  refine ⟨⟨xs,v,SqL.of h',hv⟩,fun x H2 y=>?_⟩
  obtain ⟨rfl,y⟩:=y
  have:=y xs (SqL.of h')
  rw [hv] at this;cases this
  exact ⟨.refl,j,cv.kp e⟩
 stop:=fun i ρ' H' M' e j q=>by
  have hq:ds[i]?=none:=Option.some.inj q
  exact ⟨xs,SqL.of (e.keep _ _ h n).2,by rw [c.len];exact List.getElem?_eq_none_iff.mp hq⟩
theorem Cm {K:PySem.W.Frag}{mg:Str->Option Value}{ρ:Rh}{H:Hp}{a:Addr}{xs:List V}{ds:List D} (n:a∉ρ) (h:H a=some (.tup xs)) (c:Cvs mg ρ H xs ds):ItOk mg ρ H (Itt K a) (.fix ds) where
 item:=fun i ρ' H' M' d e j q=>by
  have hq:ds[i]?=some d:=Option.some.inj q
  obtain ⟨v,hv,cv⟩:=c.get hq
  have h':=(e.keep _ _ h n).2
  refine ⟨⟨xs,v,SqT.of h',hv⟩,fun x H2 y=>?_⟩
  obtain ⟨rfl,y⟩:=y
  have:=y xs (SqT.of h')
  rw [hv] at this;cases this
  exact ⟨.refl,j,cv.kp e⟩
 stop:=fun i ρ' H' M' e j q=>by
  have hq:ds[i]?=none:=Option.some.inj q
  exact ⟨xs,SqT.of (e.keep _ _ h n).2,by rw [c.len];exact List.getElem?_eq_none_iff.mp hq⟩
theorem Cj {K:PySem.W.Frag}{mg:Str->Option Value}{ρ:Rh}{H:Hp}{a:Addr}{n:Nat} (h:ρ.st[n]?=some a):ItOk mg ρ H (Itl K a) (.dyn n) where
 item:=fun i ρ' H' M' d e j q=>by
  have h':=e.at h
  unfold Itn.next at q
  dsimp only at q
  split at q
  ·rename_i l hl
   obtain ⟨xs,hx,c⟩:=j.obj n a _ h' hl
   have hq:l[i]?=some d:=Option.some.inj q
   obtain ⟨v,hv,cv⟩:=c.get hq
   refine ⟨⟨xs,v,SqL.of hx,hv⟩,fun x H2 y=>?_⟩
   obtain ⟨rfl,y⟩:=y
   have:=y xs (SqL.of hx)
   rw [hv] at this;cases this
   exact ⟨.refl,j,cv⟩
  ·cases q
 stop:=fun i ρ' H' M' e j q=>by
  have h':=e.at h
  unfold Itn.next at q
  dsimp only at q
  split at q
  ·rename_i l hl
   obtain ⟨xs,hx,c⟩:=j.obj n a _ h' hl
   have hq:l[i]?=none:=Option.some.inj q
   exact ⟨xs,SqL.of hx,by rw [c.len];exact List.getElem?_eq_none_iff.mp hq⟩
  ·cases q
def kY (lo:Int) (n:Nat):List D:=(List.range n).map fun i=>.int (lo + (i:Nat))
theorem u5 {lo:Int}{n i:Nat}:(kY lo n)[i]?=if i<n then some (.int (lo + (i:Nat))) else none:=by
 unfold kY
 rw [List.getElem?_map]
 by_cases h:i<n
 ·rw [if_pos h,List.getElem?_range h];rfl
 ·rw [if_neg h,List.getElem?_eq_none_iff.mpr (by simp;omega)];rfl
theorem wW {mg:Str->Option Value}{ρ:Rh}{H:Hp}{lo:Int}{n:Nat}:ItOk mg ρ H (Itr lo n) (.fix (kY lo n)) where
 item:=fun i ρ' H' M' d e j q=>by
  have hq:(kY lo n)[i]?=some d:=Option.some.inj q
  rw [u5] at hq
  split at hq
  ·rename_i h
   cases hq
   refine ⟨h,fun x H2 y=>?_⟩
   obtain ⟨rfl,rfl⟩:=y
   exact ⟨.refl,j,.int _⟩
  ·cases hq
 stop:=fun i ρ' H' M' e j q=>by
  have hq:(kY lo n)[i]?=none:=Option.some.inj q
  rw [u5] at hq
  split at hq
  ·cases hq
  ·rename_i h;exact Nat.not_lt.mp h
section
variable {X:Cx}{E:XK}{tg:Expr}
def lg (i:Int):Bool:=decide (-(2 ^ 62)≤i∧i<2 ^ 62)
def mL:List D->Option Itn
 | [.int j]=>if lg j then some (.fix (kY 0 j.toNat)) else none
 | _=>none
def vR:List D->Option Itn
 | [.int i,.int j]=>if lg i && lg j then some (.fix (kY i (j - i).toNat)) else none
 | _=>none
theorem aW {a:Expr}{fa:aa->DM (List D)}{p pos:Pos} (hg:Gl X "range") (hm:X.mg "range"=none) (ha:DA X E [a] fa) (hs:notStar a=true:=by rfl):DI X E tg (.Call (.Name "range" p) [a] [] pos) (fun δ=>fa δ >>= fun l=>opt (mL l)):=
 ⟨PI.mono (vM hg hm ha.h hs).h fun σ H R h=>by
  obtain ⟨ρ,δ,M,ev,j,g1⟩:=h
  refine ⟨ρ,δ,M,ev,j,g1.bind fun ρ1 H1 M1 x dx e1 j1 c1 g2=>?_⟩
  obtain ⟨it,e,q⟩:=g2.opt
  unfold mL at e
  split at e
  ·split at e
   ·rename_i hk
    cases e
    cases c1 with | cons c1 c2=>
    cases c2;cases c1
    have hk:=of_decide_eq_true hk
    exact ⟨_,rfl,hk.1,hk.2,q ρ1 H1 _ .refl j1 wW⟩
   ·cases e
  ·cases e⟩
theorem wJ {a b:Expr}{fa:aa->DM (List D)}{p pos:Pos} (hg:Gl X "range") (hm:X.mg "range"=none) (ha:DA X E [a,b] fa) (hs:notStar a=true:=by rfl) (hs2:notStar b=true:=by rfl):DI X E tg (.Call (.Name "range" p) [a,b] [] pos) (fun δ=>fa δ >>= fun l=>opt (vR l)):=
 ⟨PI.mono (vN hg hm ha.h hs hs2).h fun σ H R h=>by
  obtain ⟨ρ,δ,M,ev,j,g1⟩:=h
  refine ⟨ρ,δ,M,ev,j,g1.bind fun ρ1 H1 M1 x dx e1 j1 c1 g2=>?_⟩
  obtain ⟨it,e,q⟩:=g2.opt
  unfold vR at e
  split at e
  ·split at e
   ·rename_i hk
    cases e
    cases c1 with | cons c1 c2=>cases c2 with | cons c2 c3=>
    cases c3;cases c1;cases c2
    have hk:=(Bool.and_eq_true _ _).mp hk
    have h1:=of_decide_eq_true hk.1
    have h2:=of_decide_eq_true hk.2
    exact ⟨_,_,rfl,⟨h1.1,h1.2,h2.1,h2.2⟩,q ρ1 H1 _ .refl j1 wW⟩
   ·cases e
  ·cases e⟩
def o5:D->Option Itn
 | .tup l=>some (.fix l)
 | _=>none
def nH:D->Mo->Option Itn
 | .lst l,_=>some (.fix l)
 | .ref n,M=>match M[n]? with
   | some (.lst _)=>some (.dyn n)
   | _=>none
 | _,_=>none
theorem dD {l:Expr}{fl:aa->DM D} (hl:DE X E l fl):DI X E tg l (fun δ=>fl δ >>= fun d=>opt (o5 d)):=⟨PI.mono (pi_tup hl.h) fun σ H R h=>by
 obtain ⟨ρ,δ,M,ev,j,g1⟩:=h
 refine ⟨ρ,δ,M,ev,j,g1.bind fun ρ1 H1 M1 x dx e1 j1 c1 g2=>?_⟩
 obtain ⟨it,e,q⟩:=g2.opt
 unfold o5 at e
 split at e
 ·cases e
  cases c1 with | tup n a c=>
  exact ⟨_,rfl,⟨_,SqT.of a⟩,q ρ1 H1 _ .refl j1 (Cm n a c)⟩
 ·cases e⟩
theorem jB {l:Expr}{fl:aa->DM D} (hl:DE X E l fl):DI X E tg l (fun δ=>fl δ >>= fun d=>rd (nH d)):=⟨PI.mono (pi_list hl.h) fun σ H R h=>by
 obtain ⟨ρ,δ,M,ev,j,g1⟩:=h
 refine ⟨ρ,δ,M,ev,j,g1.bind fun ρ1 H1 M1 x dx e1 j1 c1 g2=>?_⟩
 obtain ⟨it,e,q⟩:=g2.rd
 unfold nH at e
 split at e
 ·cases e
  cases c1 with | lst n a c=>
  exact ⟨_,rfl,⟨_,SqL.of a⟩,q ρ1 H1 _ .refl j1 (Ck n a c)⟩
 ·split at e
  ·rename_i l' hl'
   cases e
   cases c1 with | ref hn=>
   obtain ⟨xs,hx,_⟩:=j1.obj _ _ _ hn hl'
   exact ⟨_,rfl,⟨xs,SqL.of hx⟩,q ρ1 H1 _ .refl j1 (Cj hn)⟩
  ·cases e
 ·cases e⟩
end
def forL (tg:D->aa->DM aa) (fb:aa->DM Fl):List D->aa->DM Fl
 | [],δ=>pure (.nx δ)
 | d::l,δ=>tg d δ >>= fun δ1=>fb δ1 >>= fun r=>match r with
   | .nx δ2=>forL tg fb l δ2
   | .ct δ2=>forL tg fb l δ2
   | .bk δ2=>pure (.nx δ2)
   | .rt d=>pure (.rt d)
def tH (tg:D->aa->DM aa) (fb:aa->DM Fl) (n:Nat):Nat->Nat->aa->DM Fl
 | 0,_,_=>stuck
 | k + 1,i,δ=>rd (Itn.next (.dyn n) i) >>= fun o=>match o with
   | none=>pure (.nx δ)
   | some d=>tg d δ >>= fun δ1=>fb δ1 >>= fun r=>match r with
     | .nx δ2=>tH tg fb n k (i + 1) δ2
     | .ct δ2=>tH tg fb n k (i + 1) δ2
     | .bk δ2=>pure (.nx δ2)
     | .rt d=>pure (.rt d)
def vB (N:Nat) (tg:D->aa->DM aa) (fb:aa->DM Fl):Itn->aa->DM Fl
 | .fix l=>forL tg fb l
 | .dyn n=>tH tg fb n N 0
theorem bx.rdb {mg:Str->Option Value}{E:XK}{D:Ends}{ρ:Rh}{H:Hp}{M:Mo}{γ:Type}{f:Mo->Option γ}{k:γ->DM Fl} (g:bx mg E D ρ H (L3.rd f >>= k) M):∃ a,f M=some a∧bx mg E D ρ H (k a) M:=by
 obtain ⟨r,e,p⟩:=g
 have e:DM.bind _ _ M=some r:=e
 unfold DM.bind L3.rd at e
 cases h:f M with
 | none=>rw [h] at e;cases e
 | some a=>rw [h] at e;exact ⟨a,rfl,r,e,p⟩
theorem tK {X:Cx}{E:XK}{fg:D->aa->DM aa}{fb:aa->DM Fl}{D:Ends}{σ:L2.St}{H H':Hp}{ρ:Rh}{δ:aa}{M:Mo}{x:V}{d:L3.D}{N:L2.St->Hp->Prop}{again:aa->DM Fl}
  (ev:Ev X.mg ρ H σ δ) (e1:Ext ρ H ρ H') (j1:J X.mg ρ M H') (c1:Cv X.mg ρ H' x d) (ht:bx X.mg E D ρ H (fg d δ >>= fun δ1=>fb δ1 >>= fun r=>match r with
    | .nx δ2=>again δ2
    | .ct δ2=>again δ2
    | .bk δ2=>pure (.nx δ2)
    | .rt d=>pure (.rt d)) M) (hN:∀ ρ2 δ2 M2 σ2 H2,Ext ρ H ρ2 H2->Ev X.mg ρ2 H2 σ2 δ2->J X.mg ρ2 M2 H2->bx X.mg E D ρ2 H2 (again δ2) M2->N σ2 H2) :
  tG X.mg E fg x σ H' fun σ2 H2=>tS X.mg E fb { D with nx:=N,ct:=N,bk:=D.nx } σ2 H2:=by
 obtain ⟨r,er,p⟩:=ht
 have ht':bx X.mg E D ρ H' _ M:=⟨r,er,p.mono e1⟩
 refine ⟨ρ,δ,M,d,ev.mono e1,j1,c1,bx.bind ht' fun ρ2 H2 M2 σ2 δ2 e2 j2 ev2 g2=>⟨ρ2,δ2,M2,ev2,j2,g2.seq (fun δ' ρ3 H3 M3 σ3 e3 j3 ev3 g3=>?_) (fun δ' ρ3 H3 M3 σ3 e3 j3 ev3 g3=>?_) (fun δ' ρ3 H3 M3 σ3 e3 j3 ev3 g3=>?_) (fun d' ρ3 H3 M3 v e3 j3 c3 g3=>?_)⟩⟩
 ·exact hN ρ3 δ' M3 σ3 H3 ((e1.trans e2).trans e3) ev3 j3 g3
 ·exact bx.pure (a:=.nx δ') g3 ρ3 H3 σ3 .refl j3 ev3
 ·exact hN ρ3 δ' M3 σ3 H3 ((e1.trans e2).trans e3) ev3 j3 g3
 ·exact bx.pure (a:=.rt d') g3 ρ3 H3 v .refl j3 c3
theorem dF {X:Cx}{E:XK}{tg iter:Expr}{body:List Stmt}{fi:aa->DM Itn}{fg:D->aa->DM aa}{fb:aa->DM Fl}{pos:Pos} (N:Nat) (hp:PassesOwn (model X.prog X.w) X.A X.env X.xe) (hc:X.calm=true) (hi:DI X E tg iter fi) (hg:DG X E tg fg) (hb:DSs X E body fb)
  (hs:∀ x,foldedSetIterable iter X.env x=pure x:=by intro _;rfl):DS X E (.For tg iter body [] pos) (fun δ=>fi δ >>= fun it=>vB N fg fb it δ):=⟨PS.mono (ps_for hp hc hi.h hg.h hb.h hs) fun D σ H h=>by
 obtain ⟨ρ,δ,M,ev,j,g1⟩:=h
 refine ⟨ρ,δ,M,ev,j,g1.bind fun ρ1 H1 M1 Jt it e1 j1 iok g2=>?_⟩
 cases it with
 | fix l=>
   refine ⟨fun i m σ H=>∃ ρ' δ' M',Ext ρ1 H1 ρ' H∧Ev X.mg ρ' H σ δ'∧J X.mg ρ' M' H∧m=(l.drop i).length∧bx X.mg E D ρ' H (forL fg fb (l.drop i) δ') M',⟨_,ρ1,δ,M1,.refl,ev.mono e1,j1,rfl,g2⟩,?_⟩
   rintro i m σ2 H2 ⟨ρ2,δ2,M2,e2,ev2,j2,rfl,g3⟩
   cases hd:l[i]? with
   | none=>
     have hl:l.drop i=[]:=List.drop_eq_nil_of_le (List.getElem?_eq_none_iff.mp hd)
     rw [hl] at g3
     exact .inl ⟨iok.stop i ρ2 H2 M2 e2.kp j2 (congrArg some hd),bx.pure (a:=.nx δ2) g3 ρ2 H2 σ2 .refl j2 ev2⟩
   | some d=>
     obtain ⟨hi',hd'⟩:=List.getElem?_eq_some_iff.mp hd
     have hl:l.drop i=d::l.drop (i + 1):=by rw [←hd'];exact List.drop_eq_getElem_cons hi'
     obtain ⟨go,yl⟩:=iok.item i ρ2 H2 M2 d e2.kp j2 (congrArg some hd)
     rw [hl] at g3
     refine .inr ⟨go,fun σ' H'=>∃ ρ' δ' M',Ext ρ1 H1 ρ' H'∧Ev X.mg ρ' H' σ' δ'∧J X.mg ρ' M' H'∧bx X.mg E D ρ' H' (forL fg fb (l.drop (i + 1)) δ') M',fun σ' H' ⟨ρ',δ',M',a1,a2,a3,a4⟩=>⟨_,by rw [List.length_drop,List.length_drop];omega,ρ',δ',M',a1,a2,a3,rfl,a4⟩,fun x H' y=>?_⟩
     obtain ⟨x1,x2,x3⟩:=yl x H' y
     exact tK ev2 x1 x2 x3 g3 fun ρ3 δ3 M3 σ3 H3 f1 f2 f3 f4=>⟨ρ3,δ3,M3,e2.trans f1,f2,f3,f4⟩
 | dyn n=>
   refine ⟨fun i m σ H=>∃ ρ' δ' M',Ext ρ1 H1 ρ' H∧Ev X.mg ρ' H σ δ'∧J X.mg ρ' M' H∧bx X.mg E D ρ' H (tH fg fb n m i δ') M',⟨N,ρ1,δ,M1,.refl,ev.mono e1,j1,g2⟩,?_⟩
   rintro i m σ2 H2 ⟨ρ2,δ2,M2,e2,ev2,j2,g3⟩
   cases m with
   | zero=>obtain ⟨r,e,_⟩:=g3;cases e
   | succ m=>
     obtain ⟨o,eo,g4⟩:=bx.rdb g3
     cases o with
     | none=>exact .inl ⟨iok.stop i ρ2 H2 M2 e2.kp j2 eo,bx.pure (a:=.nx δ2) g4 ρ2 H2 σ2 .refl j2 ev2⟩
     | some d=>
       obtain ⟨go,yl⟩:=iok.item i ρ2 H2 M2 d e2.kp j2 eo
       refine .inr ⟨go,fun σ' H'=>∃ ρ' δ' M',Ext ρ1 H1 ρ' H'∧Ev X.mg ρ' H' σ' δ'∧J X.mg ρ' M' H'∧bx X.mg E D ρ' H' (tH fg fb n m (i + 1) δ') M',fun σ' H' z=>⟨m,Nat.lt_succ_self _,z⟩,fun x H' y=>?_⟩
       obtain ⟨x1,x2,x3⟩:=yl x H' y
       exact tK ev2 x1 x2 x3 g4 fun ρ3 δ3 M3 σ3 H3 f1 f2 f3 f4=>⟨ρ3,δ3,M3,e2.trans f1,f2,f3,f4⟩⟩
def iQ (c:aa->DM Bool) (fb:aa->DM Fl):Nat->aa->DM Fl
 | 0,_=>stuck
 | k + 1,δ=>c δ >>= fun b=>if b then (fb δ >>= fun r=>match r with
     | .nx δ2=>iQ c fb k δ2
     | .ct δ2=>iQ c fb k δ2
     | .bk δ2=>pure (.nx δ2)
     | .rt d=>pure (.rt d)) else pure (.nx δ)
theorem yG {X:Cx}{E:XK}{c:Expr}{body:List Stmt}{fc:aa->DM Bool}{fb:aa->DM Fl}{pos:Pos} (N:Nat) (hp:PassesOwn (model X.prog X.w) X.A X.env X.xe) (hc:DT X E c fc) (hb:DSs X E body fb):DS X E (.While c body [] pos) (iQ fc fb N):=⟨PS.mono (L2.ps_while hp hc.h hb.h) fun D σ H h=>by
 obtain ⟨ρ,δ,M,ev,j,g1⟩:=h
 refine ⟨fun m σ H=>∃ ρ' δ' M',Ev X.mg ρ' H σ δ'∧J X.mg ρ' M' H∧bx X.mg E D ρ' H (iQ fc fb m δ') M',⟨N,ρ,δ,M,ev,j,g1⟩,?_⟩
 rintro m σ2 H2 ⟨ρ2,δ2,M2,ev2,j2,g3⟩
 cases m with
 | zero=>obtain ⟨r,e,_⟩:=g3;cases e
 | succ m=>
   refine ⟨ρ2,δ2,M2,ev2,j2,bx.bind g3 fun ρ3 H3 M3 b b' e3 j3 cb g4=>?_⟩
   have cb:b=b':=cb
   subst cb
   cases b with
   | true=>
     refine iteT ⟨fun σ' H'=>∃ ρ' δ' M',Ev X.mg ρ' H' σ' δ'∧J X.mg ρ' M' H'∧bx X.mg E D ρ' H' (iQ fc fb m δ') M',fun σ' H' z=>⟨m,Nat.lt_succ_self _,z⟩,ρ3,δ2,M3,ev2.mono e3,j3,?_⟩
     refine bx.seq g4 (fun δ' ρ4 H4 M4 σ4 e4 j4 ev4 g5=>⟨ρ4,δ',M4,ev4,j4,g5⟩) (fun δ' ρ4 H4 M4 σ4 e4 j4 ev4 g5=>?_) (fun δ' ρ4 H4 M4 σ4 e4 j4 ev4 g5=>⟨ρ4,δ',M4,ev4,j4,g5⟩) (fun d' ρ4 H4 M4 v e4 j4 c4 g5=>?_)
     ·exact bx.pure (a:=.nx δ') g5 ρ4 H4 σ4 .refl j4 ev4
     ·exact bx.pure (a:=.rt d') g5 ρ4 H4 v .refl j4 c4
   | false=>exact iteF (bx.pure (a:=.nx δ2) g4 ρ3 H3 σ2 .refl j3 (ev2.mono e3))⟩
def xR (mg:Str->Option Value) (F:List D->DM D):Sp:=fun vs H Q E=>∃ ρ M ds,Cvs mg ρ H vs ds∧J mg ρ M H∧Go mg E (Cv mg) Q ρ H (F ds) M
structure DefD (P:Program) (w:World) (K:PySem.W.Frag) (mg:Str->Option Value) (base:Heap) (k:Nat) (x:Str) (ps:List Str) (F:List D->DM D):Prop where
 h:DefC P w K mg base k x ps (xR mg F)
def cA (n:Nat) (ds:List D):aa:=ds.map some++List.replicate (n - ds.length) none
def aL (p n:Nat) (fb:aa->DM Fl) (ds:List D):DM D:=if ds.length=p then fb (cA n ds) >>= fun r=>match r with
 | .nx _=>pure .non
 | .rt d=>pure d
 | _=>stuck else stuck
theorem j0 {mg:Str->Option Value}{ρ:Rh}{H:Hp}{N:List Str}{vs:List V}{ds:List D} (c:Cvs mg ρ H vs ds):Ev mg ρ H (L2.start N vs) (cA N.length ds):=by
 unfold L2.start cA
 refine ⟨by simp [c.len],fun i d q=>?_⟩
 by_cases hi:i<ds.length
 ·rw [List.getElem?_append_left (by rw [List.length_map];exact hi),List.getElem?_map] at q
  obtain ⟨d',h1,h2⟩:=Option.map_eq_some_iff.mp q
  cases h2
  obtain ⟨v,hv,cv⟩:=c.get h1
  exact ⟨v,by rw [List.getElem?_append_left (by rw [List.length_map,c.len];exact hi),List.getElem?_map,hv];rfl,cv⟩
 ·rw [List.getElem?_append_right (by rw [List.length_map];omega),List.getElem?_replicate] at q
  split at q<;>cases q
section
variable {P:Program}{w:World}{K:PySem.W.Frag}{mg:Str->Option Value}{base:Heap}{k:Nat}{x:Str}{N ps:List Str}{st:Stmt}
theorem bx.aL {E:XK}{Q:VK}{ρ:Rh}{H:Hp}{M:Mo}{n p:Nat}{fb:aa->DM Fl}{ds:List D} (g:Go mg E (Cv mg) Q ρ H (L3.aL p n fb ds) M):ds.length=p∧bx mg E { nx:=fun _ H'=>Q .non H',rt:=Q } ρ H (fb (cA n ds)) M:=by
 obtain ⟨r,e,p⟩:=g
 unfold L3.aL at e
 split at e
 rotate_left
 ·cases e
 rename_i hl
 refine ⟨hl,?_⟩
 have e:DM.bind _ _ M=some r:=e
 unfold DM.bind at e
 split at e
 ·cases e
 ·rename_i c M' em
  cases e
  exact ⟨_,em,p⟩
 ·rename_i a M' em
  refine ⟨_,em,?_⟩
  cases a with
  | nx δ'=>cases e;exact fun ρ1 H1 b x j c=>p ρ1 H1 .non x j .non
  | rt d=>cases e;exact fun ρ1 H1 b x j c=>p ρ1 H1 b x j c
  | bk δ'=>cases e
  | ct δ'=>cases e
theorem DefAt.okD {fb:aa->DM Fl} (D:DefAt K mg x st) (S:FnScope N ps (defScope st)) (hb:∀ (kV doc pm:Value) (an:Option Addr) (cdv ct:Value) (us:List Value),us.length=ps.length->bindArgs (PySem.W.fnOf x x (defArgs st) (defBody st) (defScope st) .none kV doc pm an cdv ct) ⟨us,[]⟩=pure (ps.zip us))
  (hbody:∀ (f:Addr) (cdv:Value) (A:Around) (outer:List Env) (s:Shared) (H:Hp) (E:XK),Room k (A.deeper (envOfC x (defScope st) s.heap.objs.size f cdv))->
    DSs (fU P w K mg base N x (defScope st) f cdv A outer s H E) E (defBody st) fb):DefD P w K mg base (k + 1) x ps (aL ps.length N.length fb):=⟨by
 refine D.okE S hb (fun vs H Q E h=>?_) fun f cdv A outer s H vs Q E hr h=>?_
 ·obtain ⟨ρ,M,ds,c,j,g⟩:=h
  rw [c.len];exact (bx.aL g).1
 obtain ⟨ρ,M,ds,c,j,g⟩:=h
 exact ⟨_,(hbody f cdv A outer s H E hr).h,ρ,_,M,j0 c,j,(bx.aL g).2⟩⟩
theorem DefAt.okN {F:List D->DM D}{fb:Nat->aa->DM Fl} (D:DefAt K mg x st) (S:FnScope N ps (defScope st)) (hb:∀ (kV doc pm:Value) (an:Option Addr) (cdv ct:Value) (us:List Value),us.length=ps.length->bindArgs (PySem.W.fnOf x x (defArgs st) (defBody st) (defScope st) .none kV doc pm an cdv ct) ⟨us,[]⟩=pure (ps.zip us))
  (hf:∀ ds M r,F ds M=some r->∃ n,aL ps.length N.length (fb n) ds M=some r)
  (hbody:∀ (n:Nat) (f:Addr) (cdv:Value) (A:Around) (outer:List Env) (s:Shared) (H:Hp) (E:XK),Room k (A.deeper (envOfC x (defScope st) s.heap.objs.size f cdv))->
    DSs (fU P w K mg base N x (defScope st) f cdv A outer s H E) E (defBody st) (fb n)):DefD P w K mg base (k + 1) x ps F:=⟨by
 refine D.okE S hb (fun vs H Q E h=>?_) fun f cdv A outer s H vs Q E hr h=>?_
 ·obtain ⟨ρ,M,ds,c,j,r,e,p⟩:=h
  obtain ⟨n,e2⟩:=hf ds M r e
  rw [c.len];exact (bx.aL ⟨r,e2,p⟩).1
 obtain ⟨ρ,M,ds,c,j,r,e,p⟩:=h
 obtain ⟨n,e2⟩:=hf ds M r e
 exact ⟨_,(hbody n f cdv A outer s H E hr).h,ρ,_,M,j0 c,j,(bx.aL ⟨r,e2,p⟩).2⟩⟩
end
mutual
inductive Fz (M:Mo) (k:Nat):D->D->Prop
 | non:Fz M k .non .non
 | bl (b:Bool):Fz M k (.bl b) (.bl b)
 | int (i:Int):Fz M k (.int i) (.int i)
 | str (x:Str):Fz M k (.str x) (.str x)
 | tup {l l':List D}:Fzs M k l l'->Fz M k (.tup l) (.tup l')
 | lst {l l':List D}:Fzs M k l l'->Fz M k (.lst l) (.lst l')
 | dic {ks:List Key}{l l':List D}:Fzs M k l l'->Fz M k (.dic ks l) (.dic ks l')
 | obj {c:Str}{ns:List Str}{l l':List D}:Fzs M k l l'->Fz M k (.obj c ns l) (.obj c ns l')
 | scr (ns:List Int):Fz M k (.scr ns) (.scr ns)
 | old {n:Nat}:n<k->Fz M k (.ref n) (.ref n)
 | new {n:Nat}{l l':List D}:k≤n->M[n]?=some (.lst l)->Fzs M k l l'->Fz M k (.ref n) (.lst l')
 | cls (c:Str):Fz M k (.cls c) (.cls c)
 | ty (c:String):Fz M k (.ty c) (.ty c)
 | exn (a:Addr):Fz M k (.exn a) (.exn a)
inductive Fzs (M:Mo) (k:Nat):List D->List D->Prop
 | nil:Fzs M k [] []
 | cons {d d':D}{l l':List D}:Fz M k d d'->Fzs M k l l'->Fzs M k (d::l) (d'::l')
end
def Gs (M:Mo) (k:Nat):DO->DO->Prop
 | .lst l,.lst l'=>Fzs M k l l'
 | .dic ks l,.dic ks' l'=>ks=ks'∧Fzs M k l l'
 | .ins c ns l,.ins c' ns' l'=>c=c'∧ns=ns'∧Fzs M k l l'
 | _,_=>False
def Fb (M':Mo) (k:Nat) (M1:Mo):Prop:=M1.length=k∧∀ (n:Nat) o,M1[n]?=some o->∃ o',M'[n]?=some o'∧Gs M' k o' o
section
variable {mg:Str->Option Value}{ρ ρ':Rh}{H:Hp}{M:Mo}{k:Nat}
structure Sub (ρ ρ':Rh) (k:Nat):Prop where
 st:∃ τ,ρ'.st=ρ.st++τ
 vo:ρ'.vo=ρ.vo
 len:ρ.st.length=k
theorem Sub.out (s:Sub ρ ρ' k) {a:Addr} (h:a∉ρ'):a∉ρ:=fun z=>by
 obtain ⟨τ,e⟩:=s.st
 rcases z with z | z
 ·exact h (.inl (by rw [e];exact List.mem_append_left _ z))
 ·exact h (.inr (by rw [s.vo];exact z))
mutual
theorem Cv.freeze (s:Sub ρ ρ' k) (j:J mg ρ' M H):∀ {d d':D}{v:V},Fz M k d d'->Cv mg ρ' H v d->Cv mg ρ H v d'
 | _,_,_,.non,c=>by cases c;exact .non
 | _,_,_,.bl b,c=>by cases c;exact .bl b
 | _,_,_,.int b,c=>by cases c;exact .int b
 | _,_,_,.str b,c=>by cases c;exact .str b
 | _,_,_,.tup f,c=>by cases c with | tup n h c=>exact .tup (s.out n) h (Cvs.freeze s j f c)
 | _,_,_,.lst f,c=>by cases c with | lst n h c=>exact .lst (s.out n) h (Cvs.freeze s j f c)
 | _,_,_,.dic f,c=>by cases c with | dic n h l c=>exact .dic (s.out n) h l (Cvs.freeze s j f c)
 | _,_,_,.obj f,c=>by cases c with | obj n m h l c=>exact .obj (s.out n) m h l (Cvs.freeze s j f c)
 | _,_,_,.scr ns,c=>by cases c with | scr n h=>exact .scr (s.out n) h
 | _,_,_,.old hn,c=>by
   cases c with | ref h=>
   obtain ⟨τ,e⟩:=s.st
   rw [e,List.getElem?_append_left (by rw [s.len];exact hn)] at h
   exact .ref h
 | _,_,_,.new (n:=n) hn hm f,c=>by
   cases c with | ref h=>
   rename_i a
   obtain ⟨xs,hx,c⟩:=j.obj _ _ _ h hm
   refine .lst (fun z=>?_) hx (Cvs.freeze s j f c)
   rcases z with z | z
   ·obtain ⟨m,hm'⟩:=List.mem_iff_getElem?.mp z
    obtain ⟨τ,e⟩:=s.st
    have hl:=(List.getElem?_eq_some_iff.mp hm').1
    have h2:ρ'.st[m]?=some a:=by rw [e,List.getElem?_append_left hl];exact hm'
    have:=j.inj h h2
    have:=s.len
    omega
   ·exact (j.vol a (by rw [s.vo];exact z)).1 (List.mem_of_getElem? h)
 | _,_,_,.cls b,c=>by cases c with | cls h=>exact .cls h
 | _,_,_,.ty b,c=>by cases c;exact .ty b
 | _,_,_,.exn b,c=>by cases c;exact .exn b
theorem Cvs.freeze (s:Sub ρ ρ' k) (j:J mg ρ' M H):∀ {d d':List D}{v:List V},Fzs M k d d'->Cvs mg ρ' H v d->Cvs mg ρ H v d'
 | _,_,_,.nil,c=>by cases c;exact .nil
 | _,_,_,.cons f fs,c=>by cases c with | cons c cs=>exact .cons (Cv.freeze s j f c) (Cvs.freeze s j fs cs)
end
theorem J.freeze {M1:Mo} (s:Sub ρ ρ' k) (j:J mg ρ' M H) (hk:ρ.st.length=M1.length) (f:Fb M k M1):J mg ρ M1 H:=by
 obtain ⟨τ,e⟩:=s.st
 refine ⟨hk,?_,fun n a o h1 h2=>?_,fun a ha=>?_⟩
 ·have:=j.nd
  rw [e] at this
  exact (List.nodup_append.mp this).1
 ·obtain ⟨o',h3,fo⟩:=f.2 n o h2
  have hl:=(List.getElem?_eq_some_iff.mp h1).1
  have c:=j.obj n a o' (by rw [e,List.getElem?_append_left hl];exact h1) h3
  cases o' with
  | lst l=>cases o with
    | lst l'=>obtain ⟨xs,hx,c⟩:=c;exact ⟨xs,hx,Cvs.freeze s j fo c⟩
    | dic _ _=>exact (show False from fo).elim
    | ins _ _ _=>exact (show False from fo).elim
  | dic ks l=>cases o with
    | lst l'=>exact (show False from fo).elim
    | dic ks' l'=>obtain ⟨xs,hx,q,c⟩:=c;obtain ⟨rfl,fo⟩:=fo;exact ⟨xs,hx,q,Cvs.freeze s j fo c⟩
    | ins _ _ _=>exact (show False from fo).elim
  | ins c' ns l=>cases o with
    | lst l'=>exact (show False from fo).elim
    | dic _ _=>exact (show False from fo).elim
    | ins c'' ns' l'=>obtain ⟨C,dx,xs,m,hx,q,c⟩:=c;obtain ⟨rfl,rfl,fo⟩:=fo;exact ⟨C,dx,xs,m,hx,q,Cvs.freeze s j fo c⟩
 ·obtain ⟨x,xs,h⟩:=j.vol a (by rw [s.vo];exact ha)
  exact ⟨fun z=>x (by rw [e];exact List.mem_append_left _ z),xs,h⟩
end
section
variable {X:Cx}{E:XK}{j k:Nat}{ps:List Str}{F:List D->DM D}{x:Str}{p pos:Pos}{e:Expr}{es:List Expr}{fs:aa->DM (List D)}
theorem aF (D:DefD X.prog X.w X.K X.mg X.base j x ps F) (hr:Room k X.A) (hx:Passes (eZ X.prog X.w) X E) (ha:DA X E (e::es) fs) (hjk:j≤k:=by decide) (hg:Gl X x:=by rfl) (hdb:(x == ("__debug__":Str))=false:=by decide)
  (he:notStar e=true:=by rfl) (hpl:(backTo pos (starEach es X.env)).any (·.1)=false:=by rfl) :
  DE X E (.Call (.Name x p) (e::es) [] pos) (fun δ=>fs δ >>= F):=⟨PE.mono (xu D.h hr hx ha.h hjk hg hdb he hpl) fun σ H Q h=>by
 obtain ⟨ρ,δ,M,ev,j,g1⟩:=h
 refine ⟨ρ,δ,M,ev,j,g1.bind fun ρ1 H1 M1 xs dxs e1 j1 c1 g2=>?_⟩
 rw [List.append_nil]
 exact ⟨ρ1,M1,dxs,c1,j1,g2⟩⟩
def rC (mg:Str->Option Value) (E:XK) (g:List D->DM D):List V->Hp->VK->Prop:=fun vs H Q=>∃ ρ M ds,J mg ρ M H∧Cvs mg ρ H vs ds∧Go mg E (Cv mg) Q ρ H (g ds) M
def CallD (X:Cx) (E:XK) (f:Value) (g:List D->DM D):Prop:=CallR X f (rC X.mg E g)
theorem aH {id:String}{g:List D->DM D} (hc:CallD X E (.builtin id) g) (hm:X.mg x=none) (ha:DA X E (e::es) fs) (hg:Gl X x:=by rfl) (hv:bootBuiltins x=some (.builtin id):=by decide +kernel) (hn:x≠"__name__":=by decide) (hdb:(x == ("__debug__":Str))=false:=by decide)
  (he:notStar e=true:=by rfl) (hpl:(backTo pos (starEach es X.env)).any (·.1)=false:=by rfl) :
  DE X E (.Call (.Name x p) (e::es) [] pos) (fun δ=>fs δ >>= g):=⟨PE.mono (Eb hc hm ha.h hg hv hn hdb he hpl) fun σ H Q h=>by
 obtain ⟨ρ,δ,M,ev,j,g1⟩:=h
 exact ⟨ρ,δ,M,ev,j,g1.bind fun ρ1 H1 M1 xs dxs e1 j1 c1 g2=>⟨ρ1,M1,dxs,j1,c1,g2⟩⟩⟩
theorem dZ {T:String}{g:List D->DM D} (hc:CallD X E (.type T) g) (hm:X.mg x=none) (ha:DA X E (e::es) fs) (hg:Gl X x:=by rfl) (hv:bootBuiltins x=some (.type T):=by decide +kernel) (hn:x≠"__name__":=by decide) (hdb:(x == ("__debug__":Str))=false:=by decide)
  (he:notStar e=true:=by rfl) (hpl:(backTo pos (starEach es X.env)).any (·.1)=false:=by rfl) :
  DE X E (.Call (.Name x p) (e::es) [] pos) (fun δ=>fs δ >>= g):=⟨PE.mono (Ed hc hm ha.h hg hv hn hdb he hpl) fun σ H Q h=>by
 obtain ⟨ρ,δ,M,ev,j,g1⟩:=h
 exact ⟨ρ,δ,M,ev,j,g1.bind fun ρ1 H1 M1 xs dxs e1 j1 c1 g2=>⟨ρ1,M1,dxs,j1,c1,g2⟩⟩⟩
theorem CallD.of {f:Value}{r:List V->Hp->VK->Prop}{g:List D->Mo->Option D} (hr:CallR X f r)
  (h:∀ vs H Q ρ M ds d,J X.mg ρ M H->Cvs X.mg ρ H vs ds->g ds M=some d->(∀ ρ' H' v,Ext ρ H ρ' H'->J X.mg ρ' M H'->Cv X.mg ρ' H' v d->Q v H')->r vs H Q):CallD X E f (fun l=>rd (g l)):=by
 intro pins s σ H vs us Q I rs q
 obtain ⟨ρ,M,ds,j,c,go⟩:=q
 obtain ⟨d,e,p⟩:=go.rd
 exact hr pins s σ H vs us Q I rs (h vs H Q ρ M ds d j c e p)
end
section
variable {X:Cx}{E:XK}{mg:Str->Option Value}{ρ:Rh}{H:Hp}{M:Mo}
theorem Cvs.one {vs:List V}{d:D} (c:Cvs mg ρ H vs [d]):∃ v,vs=[v]∧Cv mg ρ H v d:=by
 cases c with
 | cons c c2=>cases c2;exact ⟨_,rfl,c⟩
theorem Cvs.two {vs:List V}{d e:D} (c:Cvs mg ρ H vs [d,e]):∃ v w,vs=[v,w]∧Cv mg ρ H v d∧Cv mg ρ H w e:=by
 cases c with
 | cons c c2=>
   obtain ⟨w,rfl,k⟩:=c2.one
   exact ⟨_,_,rfl,c,k⟩
def bR:List D->Mo->Option D
 | [.tup l],_=>some (.int l.length)
 | [.scr l],_=>some (.int l.length)
 | [.str x],_=>if x.length≤sizeLine then some (.int x.length) else none
 | [d],M=>(bc d M).map fun l=>.int l.length
 | _,_=>none
theorem call_lenD:CallD X E (.builtin "len") (fun l=>rd (bR l)):=CallD.of (call_len_seq.or call_len_str) fun vs H Q ρ M ds d j c e q=>by
 unfold bR at e
 split at e
 ·cases e
  obtain ⟨v,rfl,k⟩:=c.one
  replace c:=k
  cases c with | tup n a c=>
  exact .inl ⟨_,_,rfl,.inr (SqT.of a),by rw [c.len];exact q ρ H _ .refl j (.int _)⟩
 ·cases e
  obtain ⟨v,rfl,k⟩:=c.one
  replace c:=k
  cases c with | scr n a=>
  exact .inl ⟨_,_,rfl,.inl (.inl a),by rw [List.length_map];exact q ρ H _ .refl j (.int _)⟩
 ·split at e
  ·cases e
   obtain ⟨v,rfl,k⟩:=c.one
   replace c:=k
   cases c
   exact .inr ⟨_,rfl,‹_›,q ρ H _ .refl j (.int _)⟩
  ·cases e
 ·obtain ⟨l,h1,rfl⟩:=Option.map_eq_some_iff.mp e
  obtain ⟨v,rfl,k⟩:=c.one
  replace c:=k
  obtain ⟨a,xs,rfl,ha,c⟩:=dM j c h1
  exact .inl ⟨_,_,rfl,.inl (SqL.of ha),by rw [c.len];exact q ρ H _ .refl j (.int _)⟩
 ·cases e
def Fw:List D->Mo->Option D
 | [.int i],_=>some (.int (if i<0 then -i else i))
 | _,_=>none
def rE:List D->Mo->Option D
 | [.int i,.int j],_=>some (.int (if j > i then j else i))
 | _,_=>none
def rF:List D->Mo->Option D
 | [.int i,.int j],_=>some (.int (if j<i then j else i))
 | _,_=>none
theorem ph (hc:X.calm=true):CallD X E (.builtin "max") (fun l=>rd (rE l)):=CallD.of (call_max2 hc) fun vs H Q ρ M ds d j c e q=>by
 unfold rE at e
 split at e
 ·cases e
  obtain ⟨v,w,rfl,k,c2⟩:=c.two
  replace c:=k
  cases c;cases c2
  exact ⟨_,_,rfl,q ρ H _ .refl j (.int _)⟩
 ·cases e
theorem jX (hc:X.calm=true):CallD X E (.builtin "min") (fun l=>rd (rF l)):=CallD.of (call_min2 hc) fun vs H Q ρ M ds d j c e q=>by
 unfold rF at e
 split at e
 ·cases e
  obtain ⟨v,w,rfl,k,c2⟩:=c.two
  replace c:=k
  cases c;cases c2
  exact ⟨_,_,rfl,q ρ H _ .refl j (.int _)⟩
 ·cases e
def gW:D->Mo->Option (List D)
 | .tup l,_=>some l
 | d,M=>bc d M
theorem uw (j:J mg ρ M H) {x:V}{d:D}{l:List D} (c:Cv mg ρ H x d) (e:gW d M=some l):∃ a xs,x=.ref a∧(H a=some (.lst xs)∨H a=some (.tup xs))∧Cvs mg ρ H xs l:=by
 unfold gW at e
 split at e
 ·cases e
  cases c with | tup n a c=>exact ⟨_,_,rfl,.inr a,c⟩
 ·obtain ⟨a,xs,rfl,ha,c⟩:=dM j c e
  exact ⟨a,xs,rfl,.inl ha,c⟩
def intsOf:List D->Option (List Int)
 | []=>some []
 | .int i::l=>(intsOf l).map (i::·)
 | _=>none
theorem ints_of:∀ {xs:List V}{l:List D}{ns:List Int},Cvs mg ρ H xs l->intsOf l=some ns->xs=ns.map V.int
 | _,_,_,.nil,e=>by cases e;rfl
 | _,_,_,.cons (d:=d) c cs,e=>by
   cases d with
   | int i=>
     obtain ⟨ms,h1,rfl⟩:=Option.map_eq_some_iff.mp e
     cases c
     rw [ints_of cs h1];rfl
   | _=>cases e
theorem wB (hh:X.A.handled=none):CallR X (.builtin "sum") (fun vs H Q=>∃ (l:Addr) (ns:List Int),vs=[.ref l]∧(H l=some (.lst (ns.map V.int))∨H l=some (.tup (ns.map V.int)))∧Q (.int ns.sum) H):=by
 intro pins s σ H vs us Q I r h
 obtain ⟨l,ns,rfl,hH,q⟩:=h
 obtain ⟨u,rfl,ru⟩:=vals1 r
 cases ru
 have fin:∀ (its:List Value),IntsAre its ns->∃ xs,its.toArray=intItems xs∧preSum (numAt xs) xs.size=ns.sum:=fun its hi=>by
  obtain ⟨xs,hx⟩:=hi.allInts.items
  have hn:numsOf its.toArray.toList=ns:=by rw [show its.toArray.toList=its from rfl,hi.numsOf]
  rw [hx] at hn
  rw [PySem.nums_intItems] at hn
  exact ⟨xs,hx,by rw [PySem.preSum_eq,List.take_of_length_le (by simp),hn]⟩
 rcases hH with hH | hH
 ·obtain ⟨its,rv,p,hz⟩:=I.list (SqL.of (K:=X.K) hH)
  obtain ⟨xs,hx,hs⟩:=fin its (intsAre_of rv)
  have hl:=p.isList
  rw [hx] at hl
  obtain ⟨o,ho,hc,n,hd⟩:=id hl
  have hne:l≠s.heap.objs.size:=Nat.ne_of_lt (Heap.lt_size ho)
  have hsz:(intItems xs).size=xs.size:=by simp [intItems]
  have W:=(Walks.list (prog:=X.prog) (w:=X.w) (A:=X.A.in1) hh s.heap.objs.size l hne (intItems xs)).toS
  rw [hsz] at W
  refine call_sum_walkAnyS (wpAny_pyIter_list hl ?_)
  refine ⟨s.heap.objs.size,_,_,_,_,_,_,numAt xs,rfl,W,⟨⟨_,Heap.get?_push_size _ rfl,rfl,rfl⟩,hl.at fun o e=>Heap.get?_push_of_some _ e⟩,fun b hb=>?_,fun i v hP=>intItems_at hP,fun s' t' hm=>?_⟩
  ·rcases List.mem_cons.mp hb with rfl | hb
   ·exact Heap.lt_size (Heap.get?_push_size _ rfl)
   ·obtain rfl:=List.mem_singleton.mp hb
    exact Heap.lt_size (Heap.get?_push_of_some _ ho)
  ·obtain ⟨h',g',d',tk',os'⟩:=s'
   have e1:g'=s.gens:=hm.gens
   have e2:d'=s.drawn:=hm.drawn
   have e3:os'=s.os:=hm.os
   subst e1 e2 e3
   refine ⟨.int ns.sum,H,I.kept (h':=h') (t':=tk') fun b o e=>hm.heap b o (fun hb=>absurd (Heap.lt_size e) ((List.mem_singleton.mp hb) ▸ Nat.lt_irrefl _)) (Heap.get?_push_of_some _ e),⟨t',?_⟩,q⟩
   rw [←hs]
 ·obtain ⟨its,rv,p,hz⟩:=I.tuple (SqT.of (K:=X.K) hH)
  obtain ⟨xs,hx,hs⟩:=fin its (intsAre_of rv)
  rw [hx] at p
  exact PySem.W.ktm_sumG hh (show s.heap.IsTuple l _ from p) fun h' tk t' hk=>⟨.int ns.sum,H,I.kept hk,⟨t',by rw [←hs]⟩,q⟩
def oW:List D->Mo->Option D
 | [d],M=>(gW d M).bind fun l=>(intsOf l).map fun ns=>.int ns.sum
 | _,_=>none
theorem bN (hh:X.A.handled=none):CallD X E (.builtin "sum") (fun l=>rd (oW l)):=CallD.of (wB hh) fun vs H Q ρ M ds d j c e q=>by
 unfold oW at e
 split at e
 ·obtain ⟨l,h1,e1⟩:=Option.bind_eq_some_iff.mp e
  obtain ⟨ns,h2,rfl⟩:=Option.map_eq_some_iff.mp e1
  obtain ⟨v,rfl,k⟩:=c.one
  replace c:=k
  obtain ⟨a,xs,rfl,ha,c⟩:=uw j c h1
  have:=ints_of c h2
  subst this
  exact ⟨_,ns,rfl,ha,q ρ H _ .refl j (.int _)⟩
 ·cases e
def zb:D->Option Bool
 | .bl b=>some b
 | .int i=>some (i != 0)
 | _=>none
def fQ:List D->Option (List Bool)
 | []=>some []
 | d::l=>match zb d,fQ l with
   | some b,some bs=>some (b::bs)
   | _,_=>none
theorem vh:∀ {xs:List V}{l:List D}{bs:List Bool},Cvs mg ρ H xs l->fQ l=some bs->(∀ x∈xs,scS x=true)∧xs.map lz=bs
 | _,_,_,.nil,e=>by cases e;exact ⟨(fun x hx=>nomatch hx),rfl⟩
 | _,_,_,.cons (d:=d) (ds:=ds) (vs:=vs) c cs,e=>by
   unfold fQ at e
   split at e
   ·rename_i b bs h1 h2
    cases e
    obtain ⟨a1,a2⟩:=vh cs h2
    cases c with
    | bl b'=>cases h1;exact ⟨fun x hx=>by rcases List.mem_cons.mp hx with rfl | hx;rfl;exact a1 x hx,by rw [List.map_cons,a2];rfl⟩
    | int b'=>cases h1;exact ⟨fun x hx=>by rcases List.mem_cons.mp hx with rfl | hx;rfl;exact a1 x hx,by rw [List.map_cons,a2];rfl⟩
    | _=>cases h1
   ·cases e
def p8:List D->Mo->Option D
 | [d],M=>(bc d M).bind fun l=>(fQ l).map fun bs=>.bl (bs.all id)
 | _,_=>none
def Br:List D->Mo->Option D
 | [.tup l],_=>(fQ l).map fun bs=>.bl (bs.any id)
 | _,_=>none
theorem gq (hh:X.A.handled=none):CallD X E (.builtin "all") (fun l=>rd (p8 l)):=CallD.of (yr hh) fun vs H Q ρ M ds d j c e q=>by
 unfold p8 at e
 split at e
 ·obtain ⟨l,h1,e1⟩:=Option.bind_eq_some_iff.mp e
  obtain ⟨ns,h2,rfl⟩:=Option.map_eq_some_iff.mp e1
  obtain ⟨v,rfl,k⟩:=c.one
  replace c:=k
  obtain ⟨a,xs,rfl,ha,c⟩:=dM j c h1
  obtain ⟨t1,t2⟩:=vh c h2
  subst t2
  exact ⟨_,xs,rfl,ha,t1,by have z:=q ρ H _ .refl j (.bl _);rw [List.all_map] at z;exact z⟩
 ·cases e
def p6:List D->Mo->Option D
 | [d],M=>(gW d M).map .tup
 | _,_=>none
theorem bZ:CallD X E (.type "tuple") (fun l=>rd (p6 l)):=CallD.of call_tuple_of fun vs H Q ρ M ds d j c e q=>by
 unfold p6 at e
 split at e
 ·obtain ⟨l,h1,rfl⟩:=Option.map_eq_some_iff.mp e
  obtain ⟨v,rfl,k⟩:=c.one
  replace c:=k
  unfold gW at h1
  split at h1
  ·cases h1
   cases c with | tup n a c=>
   exact ⟨_,_,rfl,.inr ⟨SqT.of a,q ρ H _ .refl j (.tup n a c)⟩⟩
  ·obtain ⟨a,xs,rfl,ha,c⟩:=dM j c h1
   exact ⟨_,_,rfl,.inl ⟨SqL.of ha,fun p hp=>q ρ _ _ (.lay hp) (j.lay _ hp) (.tup (j.fresh hp) upd_same (c.mono (.lay hp)))⟩⟩
 ·cases e
def m8:List D->Mo->Option (List D)
 | [d],M=>gW d M
 | _,_=>none
theorem gP:CallD X E (.type "list") (fun l=>rd (fun M=>(m8 l M).map .lst)):=CallD.of call_list_of fun vs H Q ρ M ds d j c e q=>by
 obtain ⟨l,e1,rfl⟩:=Option.map_eq_some_iff.mp e
 unfold m8 at e1
 split at e1
 ·obtain ⟨v,rfl,k⟩:=c.one
  replace c:=k
  obtain ⟨a,xs,rfl,ha,c⟩:=uw j c e1
  exact ⟨_,_,rfl,ha.imp SqL.of SqT.of,fun p hp=>q ρ _ _ (.lay hp) (j.lay _ hp) (.lst (j.fresh hp) upd_same (c.mono (.lay hp)))⟩
 ·cases e1
theorem o9:CallD X E (.type "list") (fun l=>rd (m8 l) >>= eQ):=by
 intro pins s σ H vs us Q I rs q
 obtain ⟨ρ,M,ds,j,c,go⟩:=q
 obtain ⟨l,e1,g⟩:=Go.rdb go
 unfold m8 at e1
 split at e1
 ·obtain ⟨v,rfl,k⟩:=c.one
  replace c:=k
  obtain ⟨a,xs,rfl,ha,c⟩:=uw j c e1
  exact call_list_of (X:=X) pins s σ H _ us Q I rs ⟨_,_,rfl,ha.imp SqL.of SqT.of,fun p hp=>(g.eQ j c hp).2⟩
 ·cases e1
def tyOf:D->Mo->Option String
 | .non,_=>some "NoneType"
 | .bl _,_=>some "bool"
 | .int _,_=>some "int"
 | .str _,_=>some "str"
 | .tup _,_=>some "tuple"
 | .lst _,_=>some "list"
 | .scr _,_=>some "list"
 | .dic _ _,_=>some "dict"
 | .ref n,M=>match M[n]? with
   | some (.lst _)=>some "list"
   | some (.dic _ _)=>some "dict"
   | _=>none
 | _,_=>none
theorem EY {K:PySem.W.Frag} (j:J mg ρ M H) {x:V}{d:D}{t:String} (c:Cv mg ρ H x d) (e:tyOf d M=some t):TyOf K H x (.type t):=by
 cases c with
 | non=>cases e;exact .non
 | bl b=>cases e;exact .bl b
 | int b=>cases e;exact .int b
 | str b=>cases e;exact .str b
 | tup n h c=>cases e;exact .tup h
 | lst n h c=>cases e;exact .lst h
 | dic n h l c=>cases e;exact .dK h
 | scr n h=>
   cases e
   rcases h with h | ⟨o,h⟩
   ·exact .lst h
   ·exact .frz h
 | ref q=>
   unfold tyOf at e
   dsimp only at e
   split at e
   ·rename_i l hl
    cases e
    obtain ⟨xs,h,_⟩:=j.obj _ _ _ q hl
    exact .lst h
   ·rename_i ks l hl
    cases e
    obtain ⟨xs,h,_⟩:=j.obj _ _ _ q hl
    exact .dK h
   ·cases e
 | _=>cases e
def vX (t c:String):Bool:=t == c || (t == "bool" && c == "int")
def tys:List String:=["NoneType", "bool", "int", "str", "tuple", "list", "dict"]
def eE:List D->Mo->Option D
 | [d,.ty c],M=>(tyOf d M).bind fun t=>if tys.contains c then some (.bl (vX t c)) else none
 | _,_=>none
theorem zf {d:D}{t:String} (e:tyOf d M=some t):t∈tys:=by
 unfold tyOf at e
 split at e<;>first | (cases e;decide) | (split at e<;>first | (cases e;decide) | cases e) | cases e
theorem Cy {K:PySem.W.Frag}:∀ t∈tys,∀ c∈tys,PySem.W.kitOne K (.type t) (.type c)=some (vX t c):=by
 intro t ht c hc
 simp only [tys,List.mem_cons,List.mem_nil_iff,or_false] at ht hc
 rcases ht with rfl | rfl | rfl | rfl | rfl | rfl | rfl<;>rcases hc with rfl | rfl | rfl | rfl | rfl | rfl | rfl<;>rfl
theorem b7:CallD X E (.builtin "isinstance") (fun l=>rd (eE l)):=CallD.of yt fun vs H Q ρ M ds d j c e q=>by
 unfold eE at e
 split at e
 ·obtain ⟨t,h1,e1⟩:=Option.bind_eq_some_iff.mp e
  split at e1
  ·rename_i hk
   cases e1
   obtain ⟨v,w,rfl,k,c2⟩:=c.two
   replace c:=k
   cases c2
   exact ⟨_,_,_,_,rfl,EY j c h1,Cy _ (zf h1) _ (List.contains_iff_mem.mp hk),q ρ H _ .refl j (.bl _)⟩
  ·cases e1
 ·cases e
def Ff (X:Cx) (E:XK) (id:String) (g:D->List D->DM D):Prop:=MtR X id (fun x vs H Q=>∃ ρ M d ds,J X.mg ρ M H∧Cv X.mg ρ H x d∧Cvs X.mg ρ H vs ds∧Go X.mg E (Cv X.mg) Q ρ H (g d ds) M)
def yo:D->List D->DM D
 | .ref n,[v]=>fun M=>match M[n]? with
   | some (.lst l)=>if l.length<sizeLine then some (.ok .non,M.set n (.lst (l++[v]))) else none
   | _=>none
 | _,_=>stuck
theorem Af:Ff X E "list.append" yo:=by
 intro pins s σ H x xs v us Q I rx rs q
 obtain ⟨ρ,M,d,ds,j,cx,cs,r,e,p⟩:=q
 cases cx with
 | ref hn=>
   cases cs with
   | nil=>cases e
   | cons c cs=>cases cs with
     | cons _ _=>cases e
     | nil=>
       rename_i n a w dw
       have e:(match M[n]? with
        | some (.lst l)=>if l.length<sizeLine then some (R.ok .non,M.set n (.lst (l++[dw]))) else none
        | _=>none)=some r:=e
       split at e
       ·rename_i l hl
        split at e
        ·cases e
         obtain ⟨xs,hx,cl⟩:=j.obj _ _ _ hn hl
         have x:Ext ρ H ρ (upd H a (.lst (xs++[w]))):=.upd (List.mem_of_getElem? hn)
         exact mt_append (X:=X) pins s σ H _ _ v us Q I rx rs ⟨_,_,_,rfl,rfl,hx,by rw [cl.len];assumption,p ρ _ .non x (j.upd hn ⟨_,upd_same,(cl.append (.cons c .nil)).mono x⟩) .non⟩
        ·cases e
       ·cases e
 | _=>cases e
theorem DN {name id:String}{g:D->List D->DM D}{o e:Expr}{es:List Expr}{fo:aa->DM D}{fs:aa->DM (List D)}{apos cpos:Pos} (pa:PlainAttrs "list") (slot:Slot "list" name id) (hty:typeOf (.builtin id)=pure (.type "method_descriptor")) (hm:Ff X E id g) (ho:DE X E o fo) (ha:DA X E (e::es) fs)
  (hbase:attributeBase o name X.env (eval o X.env)=eval o X.env:=by rfl)
  (hfew:((backTo cpos (starEach (e::es) X.env)).all (fun x=>!x.1) && (backToKw cpos (keywordEach [] X.env)).all (fun x=>x.1.isSome)
    && decide ((e::es).length + ([]:List Keyword).length + (if ([]:List Keyword).isEmpty then 0 else 1)<30))=true:=by rfl)
  (hline:(apos.endLine == cpos.line)=true:=by rfl) (hs:notStar e=true:=by rfl) (hplain:(backTo cpos (starEach es X.env)).any (·.1)=false:=by rfl) :
  DE X E (.Call (.Attribute o name apos) (e::es) [] cpos) (fun δ=>fo δ >>= fun x=>rd (fun M=>bc x M) >>= fun _=>fs δ >>= fun xs=>g x xs):=⟨PE.mono (CZ pa slot hty hm ho.h ha.h hbase hfew hline hs hplain) fun σ H Q h=>by
 obtain ⟨ρ,δ,M,ev,j,g1⟩:=h
 refine ⟨ρ,δ,M,ev,j,g1.bind fun ρ1 H1 M1 x dx e1 j1 c1 g2=>?_⟩
 obtain ⟨l,hl,g3⟩:=Go.rdb g2
 obtain ⟨a,xs,rfl,hx,cl⟩:=dM j1 c1 hl
 exact ⟨.inl ⟨rfl,_,SqL.of hx⟩,ρ1,δ,M1,ev.mono e1,j1,g3.bind fun ρ2 H2 M2 ys dys e2 j2 c2 g4=>⟨ρ2,M2,dx,dys,j2,c1.mono e2,c2,g4⟩⟩⟩
end
structure ExtB (acc:Addr) (ρ:Rh) (H:Hp) (ρ':Rh) (H':Hp):Prop where
 pre:∃ τ,ρ'.st=ρ.st++τ
 vo:ρ'.vo=ρ.vo
 new:∀ a,a∈ρ'.st->a∉ρ.st->H a=none
 keep:∀ a o,H a=some o->a∉ρ.st->a≠acc->H' a=some o
 na:acc∉ρ'.st
section
variable {acc:Addr}{ρ ρ1 ρ2:Rh}{H H1 H2:Hp}
theorem ExtB.trans (e:ExtB acc ρ H ρ1 H1) (f:ExtB acc ρ1 H1 ρ2 H2):ExtB acc ρ H ρ2 H2:=by
 have out:∀ a o,H a=some o->a∉ρ.st->a∉ρ1.st:=fun a o h n z=>by have:=e.new a z n;rw [h] at this;cases this
 refine ⟨?_,f.vo.trans e.vo,fun a h n=>?_,fun a o h n na=>f.keep a o (e.keep a o h n na) (out a o h n) na,f.na⟩
 ·obtain ⟨τ,h1⟩:=e.pre
  obtain ⟨υ,h2⟩:=f.pre
  exact ⟨τ++υ,by rw [h2,h1,List.append_assoc]⟩
 ·by_cases z:a∈ρ1.st
  ·exact e.new a z n
  ·cases q:H a with
   | none=>rfl
   | some o=>
     have:=f.new a h z
     rw [e.keep a o q n (fun y=>f.na (y ▸ h))] at this;cases this
theorem Ext.b (e:Ext ρ H ρ1 H1) (na:acc∉ρ1.st):ExtB acc ρ H ρ1 H1:=⟨e.pre,e.vo,e.new,fun a o h n _=>e.keep a o h n,na⟩
theorem ExtB.kp (e:ExtB acc ρ H ρ1 H1) (h:acc∈ρ.vo):Kp ρ H ρ1 H1:=⟨e.pre,fun a o q n=>by
 have ne:a≠acc:=fun z=>n (z ▸ .inr h)
 have ns:a∉ρ.st:=fun z=>n (.inl z)
 refine ⟨fun z=>?_,e.keep a o q ns ne⟩
 rcases z with z | z
 ·have:=e.new a z ns
  rw [q] at this;cases this
 ·rw [e.vo] at z;exact n (.inr z)⟩
theorem ExtB.refl (na:acc∉ρ.st):ExtB acc ρ H ρ H:=(Ext.refl).b na
theorem ExtB.grow {ys:List V} (na:acc∉ρ.st):ExtB acc ρ H ρ (upd H acc (.lst ys)):=⟨⟨[],by simp⟩,rfl,fun a h n=>absurd h n,fun a o h _ ne=>by rw [upd_ne ne];exact h,na⟩
end
structure Cst (X:Cx) (pins:List (Addr×Obj)) (acc:Addr) (ρ0:Rh) (H0:Hp) (δ:aa) (l:List D) (M:Mo) (fp:List Addr) (s:Shared):Prop where
 ex:∃ σ H ρ ys,Inv X pins σ H s∧ExtB acc ρ0 H0 ρ H∧J X.mg ρ M H∧Ev X.mg ρ H σ δ∧H acc=some (.lst ys)∧Cvs X.mg ρ H ys l∧∀ b∈fp,H b=none
def bu (fg:D->aa->DM aa) (ft:aa->DM Bool) (fb:aa->List D->DM (aa×List D)):List D->aa->List D->DM (aa×List D)
 | [],δ,l=>pure (δ,l)
 | d::ds,δ,l=>fg d δ >>= fun δ1=>ft δ1 >>= fun b=>(if b then fb δ1 l else pure (δ1,l)) >>= fun p=>bu fg ft fb ds p.1 p.2
def kJ (fg:D->aa->DM aa) (ft:aa->DM Bool) (fb:aa->List D->DM (aa×List D)) (n:Nat):Nat->Nat->aa->List D->DM (aa×List D)
 | 0,_,_,_=>stuck
 | k + 1,i,δ,l=>rd (Itn.next (.dyn n) i) >>= fun o=>match o with
   | none=>pure (δ,l)
   | some d=>fg d δ >>= fun δ1=>ft δ1 >>= fun b=>(if b then fb δ1 l else pure (δ1,l)) >>= fun p=>kJ fg ft fb n k (i + 1) p.1 p.2
def cI (fg:D->aa->DM aa) (ft:aa->DM Bool) (fb:aa->List D->DM (aa×List D)):Itn->aa->List D->DM (aa×List D)
 | .fix ds,δ,l=>bu fg ft fb ds δ l
 | .dyn n,δ,l=>rd (fun M=>bc (.ref n) M) >>= fun m=>kJ fg ft fb n (m.length + 1) 0 δ l
def aV (fe:aa->DM D) (δ:aa) (l:List D):DM (aa×List D):=fe δ >>= fun d=>if l.length<sizeLine then pure (δ,l++[d]) else stuck
def Gz (X:Cx) (ifs:List Expr) (t:TT):Prop:=∀ (pins:List (Addr×Obj)) (s:Shared) (σ:L2.St) (H:Hp) (Q:Bool->Hp->Prop),Inv X pins σ H s->t σ H Q->wpAny (model X.prog X.w) X.A (qz ifs X.env) (TP X pins σ Q) X.xe s
structure DTs (X:Cx) (E:XK) (ifs:List Expr) (f:aa->DM Bool):Prop where
 h:Gz X ifs (tD X.mg E Bv f)
theorem aR {X:Cx}{E:XK}:DTs X E [] (fun _=>pure true):=⟨fun pins s σ H Q I h=>by
 obtain ⟨ρ,δ,M,ev,j,g⟩:=h
 exact wpAny_pure ⟨H,I,g.pure ρ H true .refl j rfl⟩⟩
theorem qe {X:Cx}{E:XK}{c:Expr}{f:aa->DM Bool} (hc:DT X E c f):DTs X E [c] f:=⟨fun pins s σ H Q I h=>wpAny_tests_one (hc.h pins s σ H Q I h)⟩
theorem DM.bind_ok {α β:Type}{m:DM α}{k:α->DM β}{M M':Mo}{b:β} (h:(m >>= k) M=some (.ok b,M')):∃ a M1,m M=some (.ok a,M1)∧k a M1=some (.ok b,M'):=by
 have h:DM.bind m k M=some (.ok b,M'):=h
 unfold DM.bind at h
 split at h
 ·cases h
 ·cases h
 ·rename_i a M1 e
  exact ⟨a,M1,e,h⟩
def BodyOk (X:Cx) (acc:Addr) (W:(Shared->Prop)->Shared->Prop) (fb:aa->List D->DM (aa×List D)):Prop:=
 ∀ pins ρ0 H0 δ l M s δ' l' M',acc∈ρ0.vo->Cst X pins acc ρ0 H0 δ l M [] s->fb δ l M=some (.ok (δ',l'),M')->W (fun s'=>Cst X pins acc ρ0 H0 δ' l' M' [] s') s
theorem Cst.unpin {X:Cx}{pins pl:List (Addr×Obj)}{acc:Addr}{ρ0:Rh}{H0:Hp}{δ:aa}{l:List D}{M:Mo}{s:Shared}{fp:List Addr} (c:Cst X (pins++pl) acc ρ0 H0 δ l M [] s) (h:∀ b∈fp,∃ o,(b,o)∈pl) :
  Cst X pins acc ρ0 H0 δ l M fp s∧∀ p∈pl,s.heap.get? p.1=some p.2:=by
 obtain ⟨σ,H,ρ,ys,I,x,j,ev,ha,cl,_⟩:=c.ex
 refine ⟨⟨σ,H,ρ,ys,I.unpinned,x,j,ev,ha,cl,fun b hb=>?_⟩,fun p hp=>(I.pin p (List.mem_append_right _ (List.mem_append_right _ hp))).1⟩
 obtain ⟨o,ho⟩:=h b hb
 exact (I.pin (b,o) (List.mem_append_right _ (List.mem_append_right _ ho))).2.1
def qD (fg:D->aa->DM aa) (ft:aa->DM Bool) (fb:aa->List D->DM (aa×List D)) (δf:aa) (lf:List D) (Mf:Mo):Itn->Nat->Nat->aa->List D->Mo->Prop
 | .fix ds,n,i,δ,l,M=>n=ds.length - i∧bu fg ft fb (ds.drop i) δ l M=some (.ok (δf,lf),Mf)
 | .dyn a,n,i,δ,l,M=>kJ fg ft fb a n i δ l M=some (.ok (δf,lf),Mf)
theorem qD.step {fg:D->aa->DM aa}{ft:aa->DM Bool}{fb:aa->List D->DM (aa×List D)}{δf δ:aa}{lf l:List D}{Mf M:Mo}{it:Itn}{n i:Nat} (h:qD fg ft fb δf lf Mf it n i δ l M) :
  (it.next i M=some none∧δ=δf∧l=lf∧M=Mf)∨∃ d δ1 M1 b M2 δ3 l3 M3 m,it.next i M=some (some d)∧fg d δ M=some (.ok δ1,M1)∧ft δ1 M1=some (.ok b,M2)∧(if b then fb δ1 l else pure (δ1,l)) M2=some (.ok (δ3,l3),M3)∧m<n∧qD fg ft fb δf lf Mf it m (i + 1) δ3 l3 M3:=by
 cases it with
 | fix ds=>
   obtain ⟨rfl,h⟩:=h
   cases hd:ds[i]? with
   | none=>
     rw [List.drop_eq_nil_of_le (List.getElem?_eq_none_iff.mp hd)] at h
     cases h
     exact .inl ⟨congrArg some hd,rfl,rfl,rfl⟩
   | some d=>
     obtain ⟨hi',hd'⟩:=List.getElem?_eq_some_iff.mp hd
     have hl:ds.drop i=d::ds.drop (i + 1):=by rw [←hd'];exact List.drop_eq_getElem_cons hi'
     rw [hl] at h
     obtain ⟨δ1,M1,e1,h1⟩:=DM.bind_ok h
     obtain ⟨b,M2,e2,h2⟩:=DM.bind_ok h1
     obtain ⟨⟨δ3,l3⟩,M3,e3,h3⟩:=DM.bind_ok h2
     exact .inr ⟨d,δ1,M1,b,M2,δ3,l3,M3,ds.length - (i + 1),congrArg some hd,e1,e2,e3,by omega,rfl,h3⟩
 | dyn a=>
   cases n with
   | zero=>cases h
   | succ n=>
     obtain ⟨o,M0,e0,h⟩:=DM.bind_ok h
     obtain ⟨o',q,z⟩:=Option.map_eq_some_iff.mp e0
     cases z
     cases o with
     | none=>cases h;exact .inl ⟨q,rfl,rfl,rfl⟩
     | some d=>
       obtain ⟨δ1,M1,e1,h1⟩:=DM.bind_ok h
       obtain ⟨b,M2,e2,h2⟩:=DM.bind_ok h1
       obtain ⟨⟨δ3,l3⟩,M3,e3,h3⟩:=DM.bind_ok h2
       exact .inr ⟨d,δ1,M1,b,M2,δ3,l3,M3,n,q,e1,e2,e3,Nat.lt_succ_self _,h3⟩
theorem qD.start {fg:D->aa->DM aa}{ft:aa->DM Bool}{fb:aa->List D->DM (aa×List D)}{δf δ:aa}{lf l:List D}{Mf M:Mo}{it:Itn} (h:cI fg ft fb it δ l M=some (.ok (δf,lf),Mf)):∃ n,qD fg ft fb δf lf Mf it n 0 δ l M:=by
 cases it with
 | fix ds=>exact ⟨_,rfl,h⟩
 | dyn a=>
   obtain ⟨m,M0,e0,h⟩:=DM.bind_ok h
   obtain ⟨m',q,z⟩:=Option.map_eq_some_iff.mp e0
   cases z
   exact ⟨_,h⟩
theorem tR {X:Cx} (hc:X.calm=true) (hxe:X.xe=fun _ _=>False) {elt:Expr}{gens:List Comprehension}{scope:Scope}{pos:Pos}{depth:Nat}{g:Comprehension}{bodyK:Sem Fin->Sem Fin}{W:(Shared->Prop)->Shared->Prop}{it acc:Addr}
  (hturn:compTurn (.ListComp elt gens scope pos) depth (.ref it) (.ref acc) X.env=turnOf g bodyK (.compLoop (.ListComp elt gens scope pos) depth (.ref it) (.ref acc) X.env) (.ref it) X.env) (hW:mY X.prog X.w X.A bodyK W) (hmono:∀ P P' s,(∀ s,P s->P' s)->W P s->W P' s)
  {fg:D->aa->DM aa}{ft:aa->DM Bool}{fb:aa->List D->DM (aa×List D)} (hg:DG X E0 g.target fg) (ht:DTs X E0 g.ifs ft) (hb:BodyOk X acc W fb)
  {Jt:It}{fp:List Addr}{tn:Nat->Heap->Prop} (T:Turn X.prog X.w X.K g.target Jt fp it tn) {itn:Itn}{ρi ρ0:Rh}{Hi H0:Hp} (iok:ItOk X.mg ρi Hi Jt itn) (hacc:acc∈ρ0.vo) (kp0:Kp ρi Hi ρ0 H0) {pins:List (Addr×Obj)}
  (fok:∀ H',(∀ b∈fp,H' b=none)->∀ b∈fp,FpOk X pins H' b) {δ:aa}{l:List D}{M:Mo}{s:Shared} (st:Cst X pins acc ρ0 H0 δ l M fp s) (htn:tn 0 s.heap) {δf:aa}{lf:List D}{Mf:Mo} (hrun:cI fg ft fb itn δ l M=some (.ok (δf,lf),Mf))
  {R:Result->Shared->Prop} (hR:∀ s',Cst X pins acc ρ0 H0 δf lf Mf fp s'->R (.ok .next) s') :
  codeAny (model X.prog X.w) X.A (.compLoop (.ListComp elt gens scope pos) depth (.ref it) (.ref acc) X.env) R s:=by
 obtain ⟨n0,rem0⟩:=qD.start hrun
 refine yO (fun n s=>∃ i δ l M,qD fg ft fb δf lf Mf itn n i δ l M∧Cst X pins acc ρ0 H0 δ l M fp s∧tn i s.heap) hturn hW ?_ hmono n0 ⟨0,δ,l,M,rem0,st,htn⟩
 rintro n s ⟨i,δ,l,M,rem,st,htn⟩
 obtain ⟨σ,H,ρ,ys,I,x,j,ev,ha,cl,fr⟩:=st.ex
 have kp:Kp ρi Hi ρ H:=kp0.trans (x.kp hacc)
 rcases rem.step with ⟨hd,rfl,rfl,rfl⟩ | ⟨d,δ1,M1,b,M2,δ3,l3,M3,m,hd,e1,e2,e3,hm,rem3⟩
 ·refine wpAny_mono (T.done X rfl rfl rfl hc i pins s σ H _ I (fok H fr) htn (iok.stop i ρ H _ kp j hd)) (fun r s1 h1=>?_) fun _ _ z=>z
  obtain ⟨rfl,I1⟩:=h1
  exact hR s1 ⟨σ,H,ρ,ys,I1,x,j,ev,ha,cl,fr⟩
 ·obtain ⟨go,yl⟩:=iok.item i ρ H M d kp j hd
  refine wpAny_mono (T.item X rfl rfl rfl hc i pins s σ H (fun _ _=>False) I (fok H fr) htn go) (fun r s1 h1=>?_) fun _ _ z=>z
  obtain ⟨u,rfl,h1⟩:=h1
  refine wpAny_mono h1 (fun _ s2 h2=>?_) fun _ _ z=>z
  obtain ⟨xv,H5,I5,r5,y5,tn5,fr5⟩:=h2
  obtain ⟨x5,j5,c5⟩:=yl xv H5 y5
  have I5':=I5.pinned (fok H5 fr5) (T.obj _ _ tn5)
  refine wpAny_mono (hg.h _ s2 σ H5 xv u (fun σ6 H6=>∃ ρ6,Ext ρ H5 ρ6 H6∧J X.mg ρ6 M1 H6∧Ev X.mg ρ6 H6 σ6 δ1) I5' r5 ⟨ρ,δ,M,d,ev.mono x5,j5,c5,_,e1,fun ρ6 H6 σ6 a1 a2 a3=>⟨ρ6,a1,a2,a3⟩⟩) (fun _ s3 h3=>?_) fun _ _ z=>by rw [hxe] at z;exact z
  obtain ⟨σ6,H6,I6,ρ6,x6,j6,ev6⟩:=h3
  refine wpAny_mono (ht.h _ s3 σ6 H6 (fun b' H7=>b'=b∧∃ ρ7,Ext ρ6 H6 ρ7 H7∧J X.mg ρ7 M2 H7) I6 ⟨ρ6,δ1,M1,ev6,j6,_,e2,fun ρ7 H7 b' a1 a2 a3=>⟨a3,ρ7,a1,a2⟩⟩) (fun ok s4 h4=>?_) fun _ _ z=>by rw [hxe] at z;exact z
  obtain ⟨H7,I7,rfl,ρ7,x7,j7⟩:=h4
  have nacc:acc∉ρ.st:=x.na
  have na6:acc∉ρ6.st:=fun z=>by
   have h5:=x5.keep acc _ ha nacc
   have:=x6.new acc z nacc
   rw [h5] at this;cases this
  have ha5:=x5.keep acc _ ha nacc
  have ha6:=x6.keep acc _ ha5 nacc
  have na7:acc∉ρ7.st:=fun z=>by
   have:=x7.new acc z na6
   rw [ha6] at this;cases this
  have ha7:=x7.keep acc _ ha6 na6
  have xb:ExtB acc ρ0 H0 ρ7 H7:=((x.trans (x5.b nacc)).trans (x6.b na6)).trans (x7.b na7)
  have ct:Cst X (pins++pinsAt fp s2.heap) acc ρ0 H0 δ1 l M2 [] s4:=⟨σ6,H7,ρ7,ys,I7,xb,j7,ev6.mono x7,ha7,((cl.mono x5).mono x6).mono x7,fun b hb=>nomatch hb⟩
  have fin:∀ s5,Cst X (pins++pinsAt fp s2.heap) acc ρ0 H0 δ3 l3 M3 [] s5->∃ m,m<n∧∃ i δ l M,qD fg ft fb δf lf Mf itn m i δ l M∧Cst X pins acc ρ0 H0 δ l M fp s5∧tn i s5.heap:=fun s5 c5=>by
   obtain ⟨c6,pp⟩:=c5.unpin (fp:=fp) fun b hb=>by
    obtain ⟨o,eo,_⟩:=T.obj _ _ tn5 b hb
    exact ⟨o,mem_pinsAt hb eo⟩
   exact ⟨m,hm,i + 1,δ3,l3,M3,rem3,c6,T.keep _ _ _ tn5 fun b hb o eo=>pp (b,o) (mem_pinsAt hb eo)⟩
  cases ok with
  | true=>exact iteT (hmono _ _ _ fin (hb _ ρ0 H0 δ1 l M2 s4 δ3 l3 M3 hacc ct e3))
  | false=>
    cases e3
    exact iteF (fin s4 ct)
theorem qg {X:Cx} (hxe:X.xe=fun _ _=>False) {elt:Expr}{fe:aa->DM D}{acc:Addr} (he:DE X E0 elt fe) :
  BodyOk X acc (fun P s=>wpAny (model X.prog X.w) X.A (eval elt X.env) (fun x s1=>wpAny (model X.prog X.w) X.A (call (.builtin "list.append") [.ref acc,x]) (fun _ s2=>P s2) (fun _ _=>False) s1) (fun _ _=>False) s) (aV fe):=by
 intro pins ρ0 H0 δ l M s δ' l' M' hacc ct e
 obtain ⟨d,M1,e1,e2⟩:=DM.bind_ok e
 obtain ⟨σ,H,ρ,ys,I,x,j,ev,ha,cl,_⟩:=ct.ex
 split at e2
 rotate_left
 ·cases e2
 rename_i hz
 cases e2
 refine wpAny_mono (he.h pins s σ H (fun v H1=>∃ ρ1,Ext ρ H ρ1 H1∧J X.mg ρ1 M' H1∧Cv X.mg ρ1 H1 v d) I ⟨ρ,δ,M,ev,j,_,e1,fun ρ1 H1 v a1 a2 a3=>⟨ρ1,a1,a2,a3⟩⟩) (fun u s1 h1=>?_) fun _ _ z=>by rw [hxe] at z;exact z
 obtain ⟨v,H1,I1,rv,ρ1,x1,j1,c1⟩:=h1
 have nacc:acc∉ρ.st:=x.na
 have ha1:=x1.keep acc _ ha nacc
 have na1:acc∉ρ1.st:=fun z=>by
  have:=x1.new acc z nacc
  rw [ha] at this;cases this
 have hv1:acc∈ρ1.vo:=by rw [x1.vo,x.vo];exact hacc
 refine wpAny_mono (mt_append (X:=X) pins s1 σ H1 (.ref acc) [v] (.ref acc) [u] (fun _ H'=>H'=upd H1 acc (.lst (ys++[v]))) I1 rfl (.cons rv .nil) ⟨_,ys,v,rfl,rfl,ha1,by rw [cl.len];exact hz,rfl⟩) (fun _ s2 h2=>?_) fun _ _ z=>by rw [hxe] at z;exact z
 obtain ⟨_,H2,I2,_,rfl⟩:=h2
 exact ⟨σ,_,ρ1,ys++[v],I2,(x.trans (x1.b na1)).trans (.grow na1),j1.grow hv1,(ev.mono x1).kp ((ExtB.grow na1).kp hv1),upd_same,((cl.mono x1).append (.cons c1 .nil)).hold hv1,fun b hb=>nomatch hb⟩
def eX {α:Type} (m:DM α):DM α:=fun M=>match m M with
 | some (.ok a,M')=>some (.ok a,M')
 | _=>none
theorem pJ {α:Type}{m:DM α}{M:Mo}{r:R α×Mo} (h:eX m M=some r):∃ a M',m M=some (.ok a,M')∧r=(.ok a,M'):=by
 unfold eX at h
 split at h
 ·rename_i a M' e
  cases h
  exact ⟨a,M',e,rfl⟩
 ·cases h
def gk (js:List Nat) (δ:aa):aa:=js.map fun j=>(δ[j]?).getD none
def aM (k:Nat) (js:List Nat) (δ:aa):aa:=List.replicate k none++gk js δ
theorem uM {mg:Str->Option Value}{ρ:Rh}{H:Hp}{σ:L2.St}{δ:aa} (ev:Ev mg ρ H σ δ) (k:Nat) (js:List Nat):Ev mg ρ H (List.replicate k none++pick js σ) (aM k js δ):=by
 unfold aM pick gk
 refine ⟨by simp,fun i d q=>?_⟩
 by_cases hi:i<k
 ·rw [List.getElem?_append_left (by rw [List.length_replicate];exact hi),List.getElem?_replicate] at q
  split at q<;>cases q
 ·rw [List.getElem?_append_right (by rw [List.length_replicate];omega),List.length_replicate,List.getElem?_map] at q ⊢
  cases hj:js[i - k]? with
  | none=>rw [hj] at q;cases q
  | some j=>
    rw [hj] at q
    have q:(δ[j]?).getD none=some d:=Option.some.inj q
    have q':δ[j]?=some (some d):=by
     cases z:δ[j]? with
     | none=>rw [z] at q;cases q
     | some o=>rw [z] at q;exact congrArg some q
    obtain ⟨v,h1,h2⟩:=ev.val j d q'
    exact ⟨v,by show some ((σ[j]?).getD none)=_;rw [h1];rfl,h2⟩
theorem kh {ρ:Rh}{H:Hp}{p:Addr}{o:HO} (hp:H p=none):Kp ρ H (ρ.hold p) (upd H p o):=⟨⟨[],by show ρ.st=_;simp⟩,fun a u h n=>⟨Rh.nhold n (ne_of_none h hp),by rw [upd_ne (ne_of_none h hp)];exact h⟩⟩
inductive Out where
 | val | sto
def Out.run:Out->List D->DM D
 | .val,l=>pure (.lst l)
 | .sto,l=>fun M=>some (.ok (.ref M.length),M++[.lst l])
theorem Out.fin {mg:Str->Option Value}{E:XK}{Q:VK}{ρ1 ρ4:Rh}{H2 H4:Hp}{acc:Addr}{M:Mo}{ys:List V}{l:List D} (o:Out) (hf:H2 acc=none) (hn:acc∉ρ1) (x:ExtB acc (ρ1.hold acc) (upd H2 acc (.lst [])) ρ4 H4) (j:J mg ρ4 M H4) (ha:H4 acc=some (.lst ys)) (c:Cvs mg ρ4 H4 ys l)
  (g:Go mg E (Cv mg) Q ρ1 H2 (o.run l) M):Q (.ref acc) H4:=by
 have hv:ρ4.vo=acc::ρ1.vo:=x.vo
 have na:acc∉ρ1.vo:=fun z=>hn (.inr z)
 have nw:∀ a,a∈ρ4.st->a∉ρ1.st->H2 a=none:=fun a h n=>by
  have:=x.new a h n
  by_cases z:a=acc
  ·rw [z,upd_same] at this;cases this
  ·rw [upd_ne z] at this;exact this
 have kp:∀ a o,H2 a=some o->a∉ρ1.st->H4 a=some o:=fun a o h n=>x.keep a o (by rw [upd_ne (ne_of_none h hf)];exact h) n (ne_of_none h hf)
 cases o with
 | val=>
   have e:Ext ρ1 H2 ⟨ρ4.st,ρ1.vo⟩ H4:=⟨x.pre,rfl,nw,kp⟩
   have jd:J mg ⟨ρ4.st,ρ1.vo⟩ M H4:=J.done (ρ:=ρ1) j hv
   have cd:Cvs mg ⟨ρ4.st,ρ1.vo⟩ H4 ys l:=Cvs.less (ρ:=ρ4) (ρ1:=⟨ρ4.st,ρ1.vo⟩) rfl (fun a h=>by rw [hv];exact .tail _ h) c
   exact Go.pure (a:=D.lst l) g ⟨ρ4.st,ρ1.vo⟩ H4 (.ref acc) e jd (.lst (fun z=>by
    rcases z with z | z
    ·exact x.na z
    ·exact na z) ha cd)
 | sto=>
   obtain ⟨r,er,p⟩:=g
   cases er
   have k4:Kp ρ4 H4 ⟨ρ4.st++[acc],ρ1.vo⟩ H4:=⟨⟨[acc],rfl⟩,fun a o h n=>⟨fun z=>by
    rcases z with z | z
    ·rcases List.mem_append.mp z with z | z
     ·exact n (.inl z)
     ·exact n (.inr (by rw [hv,List.mem_singleton.mp z];exact .head _))
    ·exact n (.inr (by rw [hv];exact .tail _ z)),h⟩⟩
   have e:Ext ρ1 H2 ⟨ρ4.st++[acc],ρ1.vo⟩ H4:=by
    refine ⟨?_,rfl,fun a h n=>?_,kp⟩
    ·obtain ⟨τ,h1⟩:=x.pre
     exact ⟨τ++[acc],by show ρ4.st++[acc]=_;rw [h1,List.append_assoc];rfl⟩
    ·rcases List.mem_append.mp h with z | z
     ·exact nw a z n
     ·rw [List.mem_singleton.mp z];exact hf
   have jd:J mg ⟨ρ4.st++[acc],ρ1.vo⟩ (M++[.lst l]) H4:=by
    refine ⟨by show (ρ4.st++[acc]).length=_;rw [List.length_append,List.length_append,j.len];rfl,?_,fun n a w h1 h2=>?_,fun a h=>?_⟩
    ·show (ρ4.st++[acc]).Nodup
     rw [List.nodup_append]
     exact ⟨j.nd,by simp,fun x' hx y hy e=>by rw [List.mem_singleton.mp hy] at e;exact x.na (e ▸ hx)⟩
    ·have h1:(ρ4.st++[acc])[n]?=some a:=h1
     by_cases hl:n<ρ4.st.length
     ·rw [List.getElem?_append_left hl] at h1
      rw [List.getElem?_append_left (by rw [←j.len];exact hl)] at h2
      exact (j.obj n a w h1 h2).map rfl fun vs ds c=>c.kp k4
     ·have hl':n<(ρ4.st++[acc]).length:=(List.getElem?_eq_some_iff.mp h1).1
      rw [List.length_append] at hl'
      have e:n=ρ4.st.length:=by have:[acc].length=1:=rfl;omega
      subst e
      rw [List.getElem?_append_right (Nat.le_refl _)] at h1
      rw [j.len,List.getElem?_append_right (Nat.le_refl _)] at h2
      simp at h1 h2
      subst h1 h2
      exact ⟨ys,ha,c.kp k4⟩
    ·have h:a∈ρ1.vo:=h
     obtain ⟨y1,y2⟩:=j.vol a (by rw [hv];exact .tail _ h)
     refine ⟨fun z=>?_,y2⟩
     rcases List.mem_append.mp z with z | z
     ·exact y1 z
     ·exact na (List.mem_singleton.mp z ▸ h)
   refine p _ H4 (.ref acc) e jd (.ref ?_)
   show (ρ4.st++[acc])[_]?=_
   rw [←j.len];simp
theorem sJ {X:Cx}{E:XK}{scope:Scope}{cl:List (Str×Addr)}{own:List Str}{js:List Nat}{fr:List Str}{elt t0 i0:Expr}{f0:List Expr}{gs:List Comprehension}{pos:Pos}{fi:aa->DM Itn}{fg:D->aa->DM aa}{ft:aa->DM Bool}{fb:aa->List D->DM (aa×List D)}
  {bodyK:Cx->Addr->Sem Fin->Sem Fin}{W:Cx->Addr->(Shared->Prop)->Shared->Prop} (o:Out) (hc:X.calm=true) (T:CompG X scope cl own js fr) (hi:DI X E t0 i0 fi)
  (hturn:∀ (Y:Cx) it acc,compTurn (.ListComp elt (⟨t0,i0,f0,0⟩::gs) scope pos) 0 (.ref it) (.ref acc) Y.env=turnOf ⟨t0,i0,f0,0⟩ (bodyK Y acc) (.compLoop (.ListComp elt (⟨t0,i0,f0,0⟩::gs) scope pos) 0 (.ref it) (.ref acc) Y.env) (.ref it) Y.env)
  (hW:∀ Y acc,mY Y.prog Y.w Y.A (bodyK Y acc) (W Y acc)) (hmono:∀ Y acc P P' s,(∀ s,P s->P' s)->W Y acc P s->W Y acc P' s)
  (hg:∀ pins m fp C s₂ H₂,DG (X.bj pins scope (cellsFrom m scope.names cl) (own++fr) fp C s₂ H₂) E0 t0 fg) (ht:∀ pins m fp C s₂ H₂,DTs (X.bj pins scope (cellsFrom m scope.names cl) (own++fr) fp C s₂ H₂) E0 f0 ft)
  (hb:∀ pins m fp C s₂ H₂ acc,BodyOk (X.bj pins scope (cellsFrom m scope.names cl) (own++fr) fp C s₂ H₂) acc (W (X.bj pins scope (cellsFrom m scope.names cl) (own++fr) fp C s₂ H₂) acc) fb)
  (hs:∀ y,foldedSetIterable i0 X.env y=pure y:=by intro _;rfl) :
  DE X E (.ListComp elt (⟨t0,i0,f0,0⟩::gs) scope pos) (fun δ=>fi δ >>= fun it=>eX (cI fg ft fb it (aM own.length js δ) []) >>= fun p=>o.run p.2):=⟨by
 intro pins s σ H Q I h
 obtain ⟨ρ,δ,M,ev,j,g1⟩:=h
 rw [eval_ListComp]
 refine wpAny_comprehension_free (cl:=cl) (use:=none) rfl hs T.clos T.kind T.names ?_
 refine thn (hi.h pins s σ H (fun Jt H1=>∃ ρ1 M1 it,Ext ρ H ρ1 H1∧J X.mg ρ1 M1 H1∧ItOk X.mg ρ1 H1 Jt it∧Go X.mg E (Cv X.mg) Q ρ1 H1 (eX (cI fg ft fb it (aM own.length js δ) []) >>= fun p=>o.run p.2) M1) I
  ⟨ρ,δ,M,ev,j,g1.bind fun ρ1 H1 M1 Jt it e1 j1 iok g2=>⟨ρ1,M1,it,e1,j1,iok,g2⟩⟩) fun v s1 h1=>thn h1 fun itv s2 h2=>?_
 obtain ⟨it,fp,tn,Jt,H2,rfl,I2,Tn,st2,f2,ρ1,M1,itn,x1,j1,iok,g2⟩:=h2
 have hrun:∃ δf lf Mf,cI fg ft fb itn (aM own.length js δ) [] M1=some (.ok (δf,lf),Mf)∧Go X.mg E (Cv X.mg) Q ρ1 H2 (o.run lf) Mf:=by
  obtain ⟨r,e,p⟩:=g2
  have e:DM.bind _ _ M1=some r:=e
  unfold DM.bind at e
  split at e
  ·cases e
  ·rename_i c M' em
   obtain ⟨a,M'',_,z⟩:=pJ em
   cases z
  ·rename_i a M' em
   obtain ⟨a',M'',e1,z⟩:=pJ em
   cases z
   exact ⟨a.1,a.2,M',e1,r,e,p⟩
 obtain ⟨δf,lf,Mf,hrun,g3⟩:=hrun
 unfold newList
 refine wpAny_newObj_type (qQ ?_)
 have hlt:∀ b∈fp,b<s2.heap.objs.size:=fun b hb=>by
  obtain ⟨o,e,_⟩:=Tn.obj _ _ st2 b hb
  exact Heap.lt_size e
 dsimp only
 generalize hP:s2.heap.push { cls:=.type "list",dict:=none,data:=.seq ([]:List Value).toArray }=hp1
 have hCs:hp1.objs.size=s2.heap.objs.size + 1:=by rw [←hP,Heap.size_push]
 have hCe:hp1.objs.size + 1=(hp1.push { cls:=.type "dict",data:=.dict #[] }).objs.size:=by rw [Heap.size_push]
 have hC:s2.heap.objs.size≤hp1.objs.size:=by omega
 have hne:hp1.objs.size≠s2.heap.objs.size:=by omega
 have old1:∀ b o,s2.heap.get? b=some o->hp1.get? b=some o:=fun b o e=>by rw [←hP];exact Heap.get?_push_of_some _ e
 have old:∀ b o,s2.heap.get? b=some o->(pushCells (hp1.push { cls:=.type "dict",data:=.dict #[] }) scope.names).get? b=some o:=fun b o e=>pushCells_keeps _ _ _ _ (Heap.get?_push_of_some _ (old1 b o e))
 have new:∃ n,(pushCells (hp1.push { cls:=.type "dict",data:=.dict #[] }) scope.names).get? s2.heap.objs.size=some { cls:=.type "list",data:=.seq #[] n }:=⟨_,pushCells_keeps _ _ _ _ (Heap.get?_push_of_some _ (by rw [←hP];exact Heap.get?_push_size _ rfl))⟩
 have ns:(pushCells (hp1.push { cls:=.type "dict",data:=.dict #[] }) scope.names).Ns hp1.objs.size fun _=>none:=(Heap.Ns.new hp1 (.type "dict")).keeps (pushCells_keeps _ _)
 have hfree:H2 s2.heap.objs.size=none:=I2.hok.fresh (Nat.le_refl _)
 have IC:=qI (t':=s2.toks) T I2 f2 hlt old (Nat.le_refl _) hC hne hCe (Nat.le_trans hC (Nat.le_succ _)) (Nat.lt_succ_self _) (Nat.lt_succ_of_le hC) rfl new ns
 have OK:=IC.ok
 have fok:∀ H',(∀ b∈fp,H' b=none)->∀ b∈fp,FpOk (X.bj pins scope (cellsFrom (hp1.objs.size + 1) scope.names cl) (own++fr) fp hp1.objs.size s2 H2) [] H' b:=fun H' hn b hb=>by
  obtain ⟨_,g2,g3,g4,g5,g6⟩:=f2 b hb
  refine ⟨hn b hb,Nat.ne_of_lt (Nat.lt_of_lt_of_le (hlt b hb) hC),fun hm=>?_,.inl hb,(OK.exf b hb).2,fun p hp=>g6 p (by simpa using hp)⟩
  rcases List.mem_cons.mp (I2.stkSub _ hm) with z | z
  ·exact g2 z
  ·exact g3 z
 have fp1:∀ b∈fp,upd H2 s2.heap.objs.size (.lst []) b=none:=fun b hb=>by rw [upd_ne (Nat.ne_of_lt (hlt b hb))];exact (f2 b hb).1
 have jb:=j1.begin hfree
 have nf:=j1.fresh hfree
 have st:Cst (X.bj pins scope (cellsFrom (hp1.objs.size + 1) scope.names cl) (own++fr) fp hp1.objs.size s2 H2) [] s2.heap.objs.size (ρ1.hold s2.heap.objs.size) (upd H2 s2.heap.objs.size (.lst [])) (aM own.length js δ) [] M1 fp
   { s2 with heap:=pushCells (hp1.push { cls:=.type "dict",data:=.dict #[] }) scope.names,toks:=s2.toks }:=
  ⟨_,_,_,[],IC,.refl (fun z=>nf (.inl z)),jb,(uM (ev.mono x1) _ _).kp (kh hfree),upd_same,.nil,fp1⟩
 have tn0:tn 0 (pushCells (hp1.push { cls:=.type "dict",data:=.dict #[] }) scope.names):=Tn.keep _ _ _ st2 (fun b _ o e=>old b o e)
 have loop:codeAny (model X.prog X.w) X.A (.compLoop (.ListComp elt (⟨t0,i0,f0,0⟩::gs) scope pos) 0 (.ref it) (.ref s2.heap.objs.size) (compEnvC scope (cellsFrom (hp1.objs.size + 1) scope.names cl) hp1.objs.size X.env))
   (compPost (model X.prog X.w) X.A X.xe none (EP X pins σ Q) (.ref s2.heap.objs.size) hp1.objs.size) { s2 with heap:=pushCells (hp1.push { cls:=.type "dict",data:=.dict #[] }) scope.names,toks:=s2.toks }:=by
  refine tR (X:=X.bj pins scope (cellsFrom (hp1.objs.size + 1) scope.names cl) (own++fr) fp hp1.objs.size s2 H2) hc rfl (hturn _ _ _) (hW _ _) (hmono _ _) (hg ..) (ht ..) (hb pins (hp1.objs.size + 1) fp hp1.objs.size s2 H2 s2.heap.objs.size) Tn iok (.head _) (kh hfree) fok st tn0 hrun fun s' c'=>?_
  obtain ⟨σ4,H4,ρ4,ys,I4,x4,j4,ev4,ha4,cl4,fr4⟩:=c'.ex
  obtain ⟨m4,hn4,_⟩:=I4.loc
  refine ⟨m4,hn4,fun h' hsb'=>?_⟩
  have un:=xW I4.base hsb' hC
  have ok4:=uO I4.hok hsb' I4.free
  exact ⟨.ref s2.heap.objs.size,H4,I2.call' (s':={ s' with heap:=h' }) (ch:=fp) (I4.os) un ok4 I4.bare (fun b hb=>by
   obtain ⟨_,g2,g3,g4,g5,g6⟩:=f2 b hb
   exact ⟨g4,g2,g5,g6⟩),rfl,o.fin hfree nf x4 j4 ha4 cl4 g3⟩
 show codeAny _ _ (.compStart _ 0 (.ref it) (.ref s2.heap.objs.size) (compEnvC scope (cellsFrom (hp1.objs.size + 1) scope.names cl) hp1.objs.size X.env)) _ _
 exact mV rfl rfl loop (Tn.self X.A 0 _ _ _ tn0 loop)⟩
theorem aU {X:Cx}{E:XK}{scope:Scope}{cl:List (Str×Addr)}{own:List Str}{js:List Nat}{fr:List Str}{elt t0 i0:Expr}{f0:List Expr}{pos:Pos}{fi:aa->DM Itn}{fg:D->aa->DM aa}{ft:aa->DM Bool}{fe:aa->DM D}
  (o:Out) (hc:X.calm=true) (T:CompG X scope cl own js fr) (hi:DI X E t0 i0 fi)
  (hg:∀ pins m fp C s₂ H₂,DG (X.bj pins scope (cellsFrom m scope.names cl) (own++fr) fp C s₂ H₂) E0 t0 fg) (ht:∀ pins m fp C s₂ H₂,DTs (X.bj pins scope (cellsFrom m scope.names cl) (own++fr) fp C s₂ H₂) E0 f0 ft)
  (he:∀ pins m fp C s₂ H₂,DE (X.bj pins scope (cellsFrom m scope.names cl) (own++fr) fp C s₂ H₂) E0 elt fe)
  (hs:∀ y,foldedSetIterable i0 X.env y=pure y:=by intro _;rfl) :
  DE X E (.ListComp elt [⟨t0,i0,f0,0⟩] scope pos) (fun δ=>fi δ >>= fun it=>eX (cI fg ft (aV fe) it (aM own.length js δ) []) >>= fun p=>o.run p.2):=
 sJ (bodyK:=fun Y acc=>m7 elt (.ref acc) Y.env) (W:=fun Y acc P s=>wpAny (model Y.prog Y.w) Y.A (eval elt Y.env) (fun x s1=>wpAny (model Y.prog Y.w) Y.A (call (.builtin "list.append") [.ref acc,x]) (fun _ s2=>P s2) (fun _ _=>False) s1) (fun _ _=>False) s) o hc T hi
  (fun Y it acc=>zL ..) (fun Y acc=>sY) (fun Y acc P P' s hp h=>wpAny_mono h (fun x s1 h1=>wpAny_mono h1 (fun _ s2 h2=>hp _ h2) fun _ _ z=>z) fun _ _ z=>z) hg ht (fun pins m fp C s₂ H₂ acc=>qg rfl (he ..)) hs
def mC (fi:aa->DM Itn) (fg:D->aa->DM aa) (ft:aa->DM Bool) (fb:aa->List D->DM (aa×List D)) (δ:aa) (l:List D):DM (aa×List D):=fi δ >>= fun it=>cI fg ft fb it δ l
theorem yK {X:Cx} (hc:X.calm=true) (hxe:X.xe=fun _ _=>False) {elt t0 i0 t1 i1:Expr}{f0 f1:List Expr}{scope:Scope}{pos:Pos}{fi:aa->DM Itn}{fg:D->aa->DM aa}{ft:aa->DM Bool}{fe:aa->DM D}{acc:Addr}
  (hi:DI X E0 t1 i1 fi) (hg:DG X E0 t1 fg) (ht:DTs X E0 f1 ft) (he:DE X E0 elt fe) :
  BodyOk X acc (fun P s=>wpAny (model X.prog X.w) X.A (eval i1 X.env) (fun x s1=>wpAny (model X.prog X.w) X.A (pyIter x) (fun it s2=>
   codeAny (model X.prog X.w) X.A (.compStart (.ListComp elt [⟨t0,i0,f0,0⟩,⟨t1,i1,f1,0⟩] scope pos) 1 it (.ref acc) X.env) (fun r s3=>match r with
    | .ok _=>P s3
    | .error _=>False) s2) (fun _ _=>False) s1) (fun _ _=>False) s) (mC fi fg ft (aV fe)):=by
 intro pins ρ0 H0 δ l M s δ' l' M' hacc ct e
 obtain ⟨itn,M2,e1,e3⟩:=DM.bind_ok e
 obtain ⟨σ,H,ρ,ys,I,x,j,ev,ha,cl,_⟩:=ct.ex
 refine wpAny_mono (hi.h pins s σ H (fun Jt H1=>∃ ρ1,Ext ρ H ρ1 H1∧J X.mg ρ1 M2 H1∧ItOk X.mg ρ1 H1 Jt itn) I ⟨ρ,δ,M,ev,j,_,e1,fun ρ1 H1 Jt a1 a2 a3=>⟨ρ1,a1,a2,a3⟩⟩) (fun v s1 h1=>?_) fun _ _ z=>by rw [hxe] at z;exact z
 refine wpAny_mono h1 (fun itv s2 h2=>?_) fun _ _ z=>by rw [hxe] at z;exact z
 obtain ⟨it,fp,tn,Jt,H2,rfl,I2,Tn,st2,f2,ρ1,x1,j1,iok⟩:=h2
 have nacc:acc∉ρ.st:=x.na
 have ha2:=x1.keep acc _ ha nacc
 have na1:acc∉ρ1.st:=fun z=>by
  have:=x1.new acc z nacc
  rw [ha] at this;cases this
 have hv1:acc∈ρ1.vo:=by rw [x1.vo,x.vo];exact hacc
 have st:Cst X pins acc ρ1 H2 δ l M2 fp s2:=⟨σ,H2,ρ1,ys,I2,.refl na1,j1,ev.mono x1,ha2,cl.mono x1,fun b hb=>(f2 b hb).1⟩
 have fok:∀ H',(∀ b∈fp,H' b=none)->∀ b∈fp,FpOk X pins H' b:=fun H' hn b hb=>⟨hn b hb,(f2 b hb).2⟩
 have loop:=tR hc hxe (Dq elt t0 i0 t1 i1 f0 f1 scope pos (.ref it) (.ref acc) X.env) sY (fun P P' s hp h=>wpAny_mono h (fun x s1 h1=>wpAny_mono h1 (fun _ s2 h2=>hp _ h2) fun _ _ z=>z) fun _ _ z=>z) hg ht (qg hxe he) Tn iok hv1 .refl fok st st2 e3
  (R:=fun r s3=>match r with
    | .ok _=>Cst X pins acc ρ0 H0 δ' l' M' [] s3
    | .error _=>False) fun s' c'=>by
    obtain ⟨σ4,H4,ρ4,ys,I4,x4,j4,ev4,ha4,cl4,fr4⟩:=c'.ex
    exact ⟨σ4,H4,ρ4,ys,I4,(x.trans (x1.b na1)).trans x4,j4,ev4,ha4,cl4,fun b hb=>nomatch hb⟩
 exact mV rfl rfl loop (Tn.self X.A 0 _ _ _ st2 loop)
theorem yE {X:Cx}{E:XK}{scope:Scope}{cl:List (Str×Addr)}{own:List Str}{js:List Nat}{fr:List Str}{elt t0 i0 t1 i1:Expr}{f0 f1:List Expr}{pos:Pos}{fi fi1:aa->DM Itn}{fg fg1:D->aa->DM aa}{ft ft1:aa->DM Bool}{fe:aa->DM D}
  (o:Out) (hc:X.calm=true) (T:CompG X scope cl own js fr) (hi:DI X E t0 i0 fi)
  (hg:∀ pins m fp C s₂ H₂,DG (X.bj pins scope (cellsFrom m scope.names cl) (own++fr) fp C s₂ H₂) E0 t0 fg) (ht:∀ pins m fp C s₂ H₂,DTs (X.bj pins scope (cellsFrom m scope.names cl) (own++fr) fp C s₂ H₂) E0 f0 ft)
  (hi1:∀ pins m fp C s₂ H₂,DI (X.bj pins scope (cellsFrom m scope.names cl) (own++fr) fp C s₂ H₂) E0 t1 i1 fi1) (hg1:∀ pins m fp C s₂ H₂,DG (X.bj pins scope (cellsFrom m scope.names cl) (own++fr) fp C s₂ H₂) E0 t1 fg1)
  (ht1:∀ pins m fp C s₂ H₂,DTs (X.bj pins scope (cellsFrom m scope.names cl) (own++fr) fp C s₂ H₂) E0 f1 ft1) (he:∀ pins m fp C s₂ H₂,DE (X.bj pins scope (cellsFrom m scope.names cl) (own++fr) fp C s₂ H₂) E0 elt fe)
  (hs:∀ y,foldedSetIterable i0 X.env y=pure y:=by intro _;rfl) (hs1:∀ (env:Env) y,foldedSetIterable i1 env y=pure y:=by intro _ _;rfl) :
  DE X E (.ListComp elt [⟨t0,i0,f0,0⟩,⟨t1,i1,f1,0⟩] scope pos) (fun δ=>fi δ >>= fun it=>eX (cI fg ft (mC fi1 fg1 ft1 (aV fe)) it (aM own.length js δ) []) >>= fun p=>o.run p.2):=
 sJ (bodyK:=fun Y acc=>pG (.ListComp elt [⟨t0,i0,f0,0⟩,⟨t1,i1,f1,0⟩] scope pos) i1 (.ref acc) Y.env) (W:=fun Y acc P s=>wpAny (model Y.prog Y.w) Y.A (eval i1 Y.env) (fun x s1=>wpAny (model Y.prog Y.w) Y.A (pyIter x) (fun it s2=>
   codeAny (model Y.prog Y.w) Y.A (.compStart (.ListComp elt [⟨t0,i0,f0,0⟩,⟨t1,i1,f1,0⟩] scope pos) 1 it (.ref acc) Y.env) (fun r s3=>match r with
    | .ok _=>P s3
    | .error _=>False) s2) (fun _ _=>False) s1) (fun _ _=>False) s) o hc T hi
  (fun Y it acc=>Do ..) (fun Y acc=>zZ (hs1 _)) (fun Y acc P P' s hp h=>wpAny_mono h (fun x s1 h1=>wpAny_mono h1 (fun _ s2 h2=>codeAny_mono h2 fun r s3 h3=>by cases r with | ok f=>exact hp _ h3 | error x=>exact h3) fun _ _ z=>z) fun _ _ z=>z) hg ht (fun pins m fp C s₂ H₂ acc=>yK (X:=X.bj pins scope (cellsFrom m scope.names cl) (own++fr) fp C s₂ H₂) hc rfl (hi1 ..) (hg1 ..) (ht1 ..) (he ..)) hs
theorem boot_zip:bootBuiltins "zip"=some (.type "zip"):=by decide +kernel
def frz:D->Option (Bool×List D)
 | .tup l=>some (true,l)
 | .lst l=>some (false,l)
 | _=>none
def pairs:List D->List D->List D
 | x::xs,y::ys=>.tup [x,y]::pairs xs ys
 | _,_=>[]
def oX:List D->Option Itn
 | [x,y]=>match frz x,frz y with
   | some (_,l),some (_,m)=>some (.fix (pairs l m))
   | _,_=>none
 | _=>none
theorem pairs_at:∀ (l m:List D) (i:Nat),(pairs l m)[i]?=match l[i]?,m[i]? with
  | some x,some y=>some (.tup [x,y])
  | _,_=>none
 | [],m,i=>by simp [pairs]
 | x::xs,[],i=>by
   cases i with
   | zero=>simp [pairs]
   | succ i=>simp only [pairs,List.getElem?_nil,List.getElem?_cons_succ];cases xs[i]?<;>rfl
 | x::xs,y::ys,0=>by simp [pairs]
 | x::xs,y::ys,i + 1=>by simp only [pairs,List.getElem?_cons_succ];exact pairs_at xs ys i
section
variable {mg:Str->Option Value}{ρ:Rh}{H:Hp}
theorem wM {K:PySem.W.Frag}{x:V}{d:D}{b:Bool}{l:List D} (c:Cv mg ρ H x d) (e:frz d=some (b,l)):∃ a xs,x=.ref a∧a∉ρ∧H a=some (if b then .tup xs else .lst xs)∧Cvs mg ρ H xs l:=by
 cases c with
 | tup n h c=>cases e;exact ⟨_,_,rfl,n,h,c⟩
 | lst n h c=>cases e;exact ⟨_,_,rfl,n,h,c⟩
 | _=>cases e
theorem qU {K:PySem.W.Frag}{b:Bool}{a:Addr}{xs:List V} (h:H a=some (if b then .tup xs else .lst xs)):nG b K H a xs:=by
 cases b with
 | true=>exact SqT.of h
 | false=>exact SqL.of h
theorem Cp {K:PySem.W.Frag}{b1 b2:Bool}{l1 l2:Addr}{xs ys:List V}{ds es:List D} (n1:l1∉ρ) (n2:l2∉ρ) (h1:H l1=some (if b1 then .tup xs else .lst xs)) (h2:H l2=some (if b2 then .tup ys else .lst ys)) (c1:Cvs mg ρ H xs ds) (c2:Cvs mg ρ H ys es):ItOk mg ρ H (Fd K b1 b2 l1 l2) (.fix (pairs ds es)) where
 item:=fun i ρ' H' M' d e j q=>by
  have hq:(pairs ds es)[i]?=some d:=Option.some.inj q
  rw [pairs_at] at hq
  split at hq
  ·rename_i dx dy e1 e2
   cases hq
   obtain ⟨x,hx,cx⟩:=c1.get e1
   obtain ⟨y,hy,cy⟩:=c2.get e2
   have k1:=(e.keep _ _ h1 n1).2
   have k2:=(e.keep _ _ h2 n2).2
   refine ⟨⟨xs,ys,x,y,qU k1,qU k2,hx,hy⟩,fun v H2 z=>?_⟩
   obtain ⟨p,hp,rfl,z⟩:=z
   obtain ⟨x',y',hx',hy',rfl⟩:=z xs ys (qU k1) (qU k2)
   rw [hx] at hx';cases hx'
   rw [hy] at hy';cases hy'
   exact ⟨.lay hp,j.lay _ hp,.tup (j.fresh hp) upd_same (.cons ((cx.kp e).mono (.lay hp)) (.cons ((cy.kp e).mono (.lay hp)) .nil))⟩
  ·cases hq
 stop:=fun i ρ' H' M' e j q=>by
  have hq:(pairs ds es)[i]?=none:=Option.some.inj q
  rw [pairs_at] at hq
  refine ⟨xs,ys,qU (e.keep _ _ h1 n1).2,qU (e.keep _ _ h2 n2).2,?_⟩
  cases e1:ds[i]? with
  | none=>exact .inl (List.getElem?_eq_none_iff.mpr (by rw [c1.len];exact List.getElem?_eq_none_iff.mp e1))
  | some dx=>cases e2:es[i]? with
    | none=>exact .inr (List.getElem?_eq_none_iff.mpr (by rw [c2.len];exact List.getElem?_eq_none_iff.mp e2))
    | some dy=>rw [e1,e2] at hq;cases hq
end
theorem sV {X:Cx}{E:XK}{elts:List Expr}{kt:Nat}{tp:Pos}{a b:Expr}{fa:aa->DM (List D)}{p pos:Pos} (hg:Gl X "zip") (hm:X.mg "zip"=none) (ha:DA X E [a,b] fa) (hs:notStar a=true:=by rfl) (hs2:notStar b=true:=by rfl) :
  DI X E (.Tuple elts kt tp) (.Call (.Name "zip" p) [a,b] [] pos) (fun δ=>fa δ >>= fun l=>opt (oX l)):=⟨by
 intro pins s σ H R I h
 obtain ⟨ρ,δ,M,ev,j,g1⟩:=h
 refine Call_ (ld_blt I hg hm boot_zip (PyProof.Rows.callWith_type1 (thn (ha.h.h pos pins s σ H (fun vs H1=>∃ ρ1 M1 ds,Ext ρ H ρ1 H1∧J X.mg ρ1 M1 H1∧Cvs X.mg ρ1 H1 vs ds∧Go X.mg E (ItOk X.mg) R ρ1 H1 (opt (oX ds)) M1) I ⟨ρ,δ,M,ev,j,g1.bind fun ρ1 H1 M1 vs ds e1 j1 c1 g2=>⟨ρ1,M1,ds,e1,j1,c1,g2⟩⟩) fun us s1 h1=>?_) (bF hs) (by rw [bF hs2];rfl)))
 obtain ⟨vs,H1,I1,rv,ρ1,M1,ds,e1,j1,c1,g2⟩:=h1
 obtain ⟨itn,ei,q⟩:=g2.opt
 unfold oX at ei
 split at ei
 rotate_left
 ·cases ei
 rename_i dx dy
 split at ei
 rotate_left
 ·cases ei
 rename_i b1 l b2 m f1 f2
 cases ei
 obtain ⟨v1,v2,rfl,k1,k2⟩:=c1.two
 obtain ⟨a1,xs,rfl,n1,h1,cx⟩:=wM (K:=X.K) k1 f1
 obtain ⟨a2,ys,rfl,n2,h2,cy⟩:=wM (K:=X.K) k2 f2
 obtain ⟨u1,u2,rfl,r1,r2⟩:=vals2 rv
 cases r1
 cases r2
 obtain ⟨its1,w1,p1,_⟩:=I1.seqS (qU (K:=X.K) h1)
 obtain ⟨its2,w2,p2,_⟩:=I1.seqS (qU (K:=X.K) h2)
 refine wC p1 p2 fun h' a1' a2' a3 a4 a5 a6 a7=>wpAny_pyIter_zip a1' ?_
 have lt1:@LT.lt Nat _ a1 s1.heap.objs.size:=p1.lt
 have lt2:@LT.lt Nat _ a2 s1.heap.objs.size:=p2.lt
 have D:ZipApart (s1.heap.objs.size + 4) (s1.heap.objs.size + 2) (s1.heap.objs.size + 3) s1.heap.objs.size (s1.heap.objs.size + 1) a1 a2:=by
  constructor<;>exact fun (h:@Eq Nat _ _)=>by have:=lt1;have:=lt2;omega
 have I2:Inv X pins σ H1 { s1 with heap:=h' }:=I1.kept (t':=s1.toks) a7
 refine ⟨_,_,_,_,H1,rfl,I2,zc D,⟨a1',a2',⟨_,_,a3⟩,a4.1,a5.1⟩,fun b hb=>?_,q ρ1 H1 _ .refl j1 (Cp n1 n2 h1 h2 cx cy)⟩
 refine I1.fpOk ?_ (I1.hok.fresh ?_)<;>(simp only [List.mem_cons,List.mem_nil_iff,or_false] at hb;rcases hb with rfl | rfl | rfl | rfl | rfl<;>omega)⟩
theorem Dz {α β γ:Type} (m:DM α) (f:α->DM β) (g:β->DM γ):(m >>= f) >>= g=m >>= fun a=>f a >>= g:=by
 funext M
 show DM.bind (DM.bind m f) g M=DM.bind m (fun a=>DM.bind (f a) g) M
 unfold DM.bind
 cases m M with
 | none=>rfl
 | some r=>obtain ⟨r,M'⟩:=r;cases r<;>rfl
theorem gG:∀ {names:List (Str×NameKind)}{m:Nat}{y:Str}{c:Addr},(y,c)∈cellsFrom m names []->(y,NameKind.cell)∈names
 | [],_,_,_,h=>nomatch h
 | (n,k)::r,m,y,c,h=>by
   unfold cellsFrom at h
   split at h
   ·rename_i hk
    rw [b8] at h
    rcases List.mem_append.mp h with z | z
    ·exact .tail _ (gG z)
    ·cases List.mem_singleton.mp z
     have hk':k=.cell:=by cases k<;>first | rfl | cases hk
     rw [hk'];exact .head _
   ·exact .tail _ (gG h)
def isC:NameKind->Bool
 | .cell=>true
 | _=>false
theorem Cg {k:NameKind} (h:isC k=true):k=.cell:=by cases k<;>first | rfl | cases h
theorem aN {names:List (Str×NameKind)} (h:(names.all fun p=>!isC p.2 || (match names.lookup p.1 with | some k=>isC k | none=>false))=true):∀ (m:Nat) y c,(cellsFrom m names []).lookup y=some c->names.lookup y=some .cell:=fun m y c e=>by
 have hm:=gG (PySem.mem_of_lookup e)
 have q:=List.all_eq_true.mp h _ hm
 simp only [isC,Bool.not_true,Bool.false_or] at q
 split at q
 ·rename_i k hk
  rw [hk,Cg q]
 ·cases q
theorem aO {cl:List (Str×Addr)}{names:List (Str×NameKind)} (h:sE (fun p=>(match names.lookup p.1 with | some k=>isC k | none=>false)=false) cl):∀ y c,cl.lookup y=some c->names.lookup y≠some .cell:=fun y c e z=>by
 have:=jV h (y,c) (L2.mem_of_lookup e)
 simp only [z,isC] at this
 cases this
end L3
namespace L3
open PySem PySem.Spec L2
@[simp] theorem au {α β:Type} (a:α) (f:α->DM β):((Pure.pure a:DM α) >>= f)=f a:=id rfl
@[simp] theorem cY {α β γ:Type} (m:DM α) (f:α->DM β) (g:β->DM γ):(m >>= f) >>= g=m >>= fun a=>f a >>= g:=Dz m f g
@[simp] theorem cO {α:Type} (a:α):(opt (some a):DM α)=Pure.pure a:=id rfl
@[simp] theorem Hn {α:Type} (a:α):eX (Pure.pure a:DM α)=Pure.pure a:=id rfl
@[simp] theorem Gp {α β:Type} (c:Str) (f:α->DM β):((raise c:DM α) >>= f)=raise c:=id rfl
theorem dG {α:Type}{f:Mo->Option α}{a:α} (h:∀ M,f M=some a):(rd f:DM α)=Pure.pure a:=by
 funext M
 show (f M).map _=_
 rw [h M];rfl
@[simp] theorem Hq (f g:aa->DM Fl) (δ:aa):vU f g δ=f δ >>= fun r=>match r with
 | .nx δ'=>g δ'
 | r=>Pure.pure r:=id rfl
@[simp] theorem zH (i:Nat) (δ:aa):BX i δ=opt ((δ[i]?).join):=id rfl
@[simp] theorem pP (b:Bool):iR (.bl b)=Pure.pure b:=id rfl
@[simp] theorem G3 (p n:Nat) (fb:aa->DM Fl) (ds:List D):aL p n fb ds=if ds.length=p then fb (cA n ds) >>= fun r=>match r with
 | .nx _=>Pure.pure .non
 | .rt d=>Pure.pure d
 | _=>stuck else stuck:=id rfl
@[simp] theorem Gq (n:Nat) (ds:List D):cA n ds=ds.map some++List.replicate (n - ds.length) none:=id rfl
@[simp] theorem gb (i:Nat) (d:D) (δ:aa):gN i d δ=Pure.pure (δ.set i (some d)):=id rfl
@[simp] theorem Ge (n:Nat) (fs:List D->aa->DM aa) (l:List D) (δ:aa):gT n fs (.tup l) δ=if l.length=n then fs l δ else stuck:=id rfl
@[simp] theorem Ej (f:D->aa->DM aa) (fs:List D->aa->DM aa) (d:D) (l:List D) (δ:aa):wR f fs (d::l) δ=f d δ >>= fun δ'=>fs l δ':=id rfl
@[simp] theorem Ek (δ:aa):zy [] δ=Pure.pure δ:=id rfl
@[simp] theorem Ho (i j:Nat) (fa:aa->DM (List D)) (δ:aa):CW i j fa δ=fa δ >>= fun l=>match l with
 | [v,w]=>Pure.pure (.nx ((δ.set i (some v)).set j (some w)))
 | _=>stuck:=id rfl
@[simp] theorem Eh (i j:Int):(rd (eU (.int i) (.int j)):DM D)=Pure.pure (.int (i + j)):=id rfl
@[simp] theorem Et (i j:Int):(rd (ux (.int i) (.int j)):DM D)=Pure.pure (.int (i - j)):=id rfl
@[simp] theorem Hs (i j:Int):(rd (zE (.int i) (.int j)):DM D)=Pure.pure (.bl (decide (i<j))):=id rfl
@[simp] theorem Gh (i j:Int):(rd (wZ (.int i) (.int j)):DM D)=Pure.pure (.bl (decide (i≤j))):=id rfl
@[simp] theorem Gg (i j:Int):(rd (qL (.int i) (.int j)):DM D)=Pure.pure (.bl (decide (j<i))):=id rfl
@[simp] theorem Gf (i j:Int):(rd (wO (.int i) (.int j)):DM D)=Pure.pure (.bl (decide (j≤i))):=id rfl
@[simp] theorem Hm (i:Int):(rd (FW (.int i)):DM D)=Pure.pure (.int (-i)):=id rfl
@[simp] theorem Hf (i:Int):(rd (Fw [.int i]):DM D)=Pure.pure (.int (if i<0 then -i else i)):=id rfl
@[simp] theorem G7 (i j:Int):(rd (rE [.int i,.int j]):DM D)=Pure.pure (.int (if j > i then j else i)):=id rfl
@[simp] theorem Dg (i j:Int):(rd (rF [.int i,.int j]):DM D)=Pure.pure (.int (if j<i then j else i)):=id rfl
theorem Eo {i j:Int} (h:0<j):(rd (oK (.int i) (.int j)):DM D)=Pure.pure (.int (i % j)):=dG fun M=>by simp [cX,h]
theorem Ep {i j:Int} (h:gj i j=true):(rd (tZ (.int i) (.int j)):DM D)=Pure.pure (.int (i * j)):=dG fun M=>by simp [cX,h]
theorem Df {i j:Int} (h:m6 i j=true):(rd (pD (.int i) (.int j)):DM D)=Pure.pure (.int (i / j)):=dG fun M=>by simp [cX,h]
theorem zJ {i j:Int} (h:zF i j=true):(rd (vO (.int i) (.int j)):DM D)=Pure.pure (.int (i ^ j.toNat)):=dG fun M=>by simp [cX,h]
theorem bits_le {i:Int}{n:Nat} (h:i.natAbs<2 ^ n):Builtin.Int.intBits i≤n:=by
 unfold Builtin.Int.intBits
 split
 ·exact Nat.zero_le _
 ·rename_i h0
  have:i.natAbs≠0:=by intro z;apply h0;simp;omega
  exact (Nat.log2_lt this).mpr h
theorem Gm {i j:Int} (h:i.natAbs<2 ^ 64):gj i j=true:=by
 unfold gj
 have:¬ (Builtin.Int.intBits i > shortFactorBits):=by have:=bits_le h;unfold shortFactorBits;omega
 simp [this]
theorem Ah {i j:Int} (h:j.natAbs<2 ^ 64):gj i j=true:=by
 unfold gj
 have:¬ (Builtin.Int.intBits j > shortFactorBits):=by have:=bits_le h;unfold shortFactorBits;omega
 simp [this]
theorem zV {i j:Int} (h0:0<j) (h:j.natAbs<2 ^ 1000):m6 i j=true:=by
 unfold m6
 have a:Builtin.divisionGoesByPylong i j=false:=by
  unfold Builtin.divisionGoesByPylong
  have hj:j.natAbs≠0:=by omega
  have hl:j.natAbs.log2<1000:=(Nat.log2_lt hj).mpr h
  have h0':(j == 0)=false:=by simp;omega
  simp only [h0']
  have:¬ (j.natAbs.log2 / 30 + 1 > 300):=by omega
  simp [this]
 simp [a,h0]
theorem Dh {a b:Nat} (h0:0<b):(rd (oK (.int (a:Int)) (.int (b:Int))):DM D)=Pure.pure (.int ((a % b:Nat):Int)):=by
 rw [Eo (by omega),Int.natCast_emod]
def nD (n:Nat):D:=.int (n:Int)
def nT (l:List Nat):D:=.tup (l.map nD)
theorem lV {α:Type}{l:List α}{i:Nat}{a:α} (h:l[i]?=some a):atI l (i:Int)=some a:=by
 have hi:=(List.getElem?_eq_some_iff.mp h).1
 unfold atI ixN
 rw [if_pos (by omega),if_pos (by omega)]
 simpa using h
theorem pU {l:List D}{i:Nat}{a:D} (h:l[i]?=some a):(rd (dI (.tup l) (.int (i:Int))):DM D)=Pure.pure a:=dG fun M=>lV h
theorem rG {l:List D}{i:Nat}{a:D} (h:l[i]?=some a):(rd (dI (.lst l) (.int (i:Int))):DM D)=Pure.pure a:=dG fun M=>lV h
theorem En {l:List Nat}{i:Nat}{a:Nat} (h:l[i]?=some a):(rd (dI (nT l) (.int (i:Int))):DM D)=Pure.pure (nD a):=pU (by simp [h])
@[simp] theorem G6 (l:List D):(rd (bR [.tup l]):DM D)=Pure.pure (.int (l.length:Int)):=id rfl
@[simp] theorem G4 (l:List D):(rd (bR [.lst l]):DM D)=Pure.pure (.int (l.length:Int)):=id rfl
@[simp] theorem G5 (l:List Int):(rd (bR [.scr l]):DM D)=Pure.pure (.int (l.length:Int)):=id rfl
@[simp] theorem Dj (l:List D):(rd (p6 [.lst l]):DM D)=Pure.pure (.tup l):=id rfl
@[simp] theorem Hb (l:List D):(rd (p6 [.tup l]):DM D)=Pure.pure (.tup l):=id rfl
theorem pH:∀ l:List Int,intsOf (l.map D.int)=some l
 | []=>rfl
 | i::l=>by simp [intsOf,pH l]
theorem iW:∀ l:List Nat,intsOf (l.map nD)=some (l.map fun n:Nat=>(n:Int))
 | []=>rfl
 | i::l=>by simp [intsOf,nD];exact iW l
theorem lu:∀ l:List Nat,(l.map fun n:Nat=>(n:Int)).sum=((l.sum:Nat):Int)
 | []=>rfl
 | i::l=>by simp [lu l]
@[simp] theorem G9 (l:List Nat):(rd (oW [nT l]):DM D)=Pure.pure (nD l.sum):=dG fun M=>by
 show (intsOf (l.map nD)).map _=_
 rw [iW];simp [nD,lu]
@[simp] theorem pX (l:List Nat):(rd (oW [.lst (l.map nD)]):DM D)=Pure.pure (nD l.sum):=dG fun M=>by
 show (intsOf (l.map nD)).map _=_
 rw [iW];simp [nD,lu]
@[simp] theorem pW {n:Nat} (h:n<2 ^ 62):mL [.int (n:Int)]=some (.fix ((List.range n).map nD)):=by
 have:lg (n:Int)=true:=by unfold lg;exact decide_eq_true ⟨by omega,by omega⟩
 simp [mL,this,kY,nD]
@[simp] theorem Hg (l:List D):o5 (.tup l)=some (.fix l):=id rfl
theorem rJ {l:List D} (h:l.length≤1000000):xg l=Pure.pure (.tup l):=by
 have:fO l=true:=by unfold fO;exact decide_eq_true (by show l.length≤2 ^ 24;omega)
 simp [xg,this]
theorem gU {l:List D} (h:l.length≤1000000):lG l=Pure.pure (.lst l):=by
 have:fO l=true:=by unfold fO;exact decide_eq_true (by show l.length≤2 ^ 24;omega)
 simp [lG,this]
@[simp] theorem Ar (fg:D->aa->DM aa) (ft:aa->DM Bool) (fb:aa->List D->DM (aa×List D)) (ds:List D) (δ:aa) (l:List D):cI fg ft fb (.fix ds) δ l=bu fg ft fb ds δ l:=id rfl
theorem tQ {fg:D->aa->DM aa}{ft:aa->DM Bool}{fe:aa->DM D} (S:aa->Prop) (en:D->aa) (p:D->Bool) (e:D->D):∀ (ds:List D) (δ:aa) (l:List D),S δ->l.length + ds.length≤1000000->
  (∀ d∈ds,∀ δ,S δ->fg d δ=Pure.pure (en d)∧S (en d))->(∀ d∈ds,ft (en d)=Pure.pure (p d))->(∀ d∈ds,p d=true->fe (en d)=Pure.pure (e d))->∃ δ',bu fg ft (aV fe) ds δ l=Pure.pure (δ',l++(ds.filter p).map e)
 | [],δ,l,_,_,_,_,_=>⟨δ,by simp [bu]⟩
 | d::ds,δ,l,s,hl,h0,h1,h2=>by
   have a:=h0 d (List.mem_cons_self ..) δ s
   have b:=h1 d (List.mem_cons_self ..)
   have hl':l.length + (ds.length + 1)≤1000000:=by simpa using hl
   have lt:l.length<sizeLine:=by show l.length<2 ^ 24;omega
   have ih:=fun l' hl'=>tQ S en p e ds (en d) l' a.2 hl' (fun x hx=>h0 x (List.mem_cons_of_mem _ hx)) (fun x hx=>h1 x (List.mem_cons_of_mem _ hx)) (fun x hx=>h2 x (List.mem_cons_of_mem _ hx))
   by_cases hp:p d=true
   ·have c:=h2 d (List.mem_cons_self ..) hp
    obtain ⟨δ',q⟩:=ih (l++[e d]) (by simp;omega)
    refine ⟨δ',?_⟩
    simp [bu,a.1,b,hp,aV,c,lt,q]
   ·obtain ⟨δ',q⟩:=ih l (by omega)
    refine ⟨δ',?_⟩
    simp [bu,a.1,b,hp,q]
@[simp] theorem Di (l:List D):Out.run .val l=Pure.pure (.lst l):=id rfl
theorem DK {ft:aa->DM Bool}{fe:aa->DM D}{x:Option D}{rest:aa}{ds:List D} (p:D->Bool) (e:D->D) (hl:ds.length≤1000000) (h1:∀ d∈ds,ft (some d::rest)=Pure.pure (p d)) (h2:∀ d∈ds,p d=true->fe (some d::rest)=Pure.pure (e d)) {β:Type}{k:aa×List D->DM β}{k':List D->DM β} (hk:∀ q,k q=k' q.2) :
  (eX (bu (gN 0) ft (aV fe) ds (x::rest) []) >>= k)=k' ((ds.filter p).map e):=by
 obtain ⟨δ',q⟩:=tQ (fg:=gN 0) (ft:=ft) (fe:=fe) (fun δ=>∃ x,δ=x::rest) (fun d=>some d::rest) p e ds (x::rest) [] ⟨x,rfl⟩ (by simpa using hl) (fun d _ δ ⟨x,h⟩=>⟨by subst h;rfl,_,rfl⟩) h1 h2
 rw [q];simp [hk]
@[simp] theorem Gn {α:Type} (m:DM α):(m >>= fun a=>(Pure.pure a:DM α))=m:=by
 funext M
 show DM.bind m _ M=m M
 unfold DM.bind
 cases m M with
 | none=>rfl
 | some r=>obtain ⟨r,M'⟩:=r;cases r<;>rfl
def kj:Option D->List D->Option D
 | x,[]=>x
 | _,d::ds=>kj (some d) ds
theorem mq:∀ (as bs:List Int),PyData.eqvAll (as.map .int) (bs.map .int)=decide (as=bs)
 | [],[]=>by simp [PyData.eqvAll]
 | [],b::bs=>by simp [PyData.eqvAll]
 | a::as,[]=>by simp [PyData.eqvAll]
 | a::as,b::bs=>by
   rw [List.map_cons,List.map_cons]
   simp only [PyData.eqvAll,PyData.eqv,mq as bs]
   by_cases h:a=b<;>by_cases h2:as=bs<;>simp [h,h2]
theorem lw:∀ l:List Int,jq (l.map D.int)=some (l.map PyData.int)
 | []=>rfl
 | i::l=>by simp [jq,toPy,lw l]
theorem lay_ints:∀ l:List Int,PyData.canLayAll0 (l.map PyData.int)=true
 | []=>rfl
 | i::l=>by simp [PyData.canLayAll0,PyData.canLay0,lay_ints l]
theorem jZ:∀ l:List Int,PyData.depthAll (l.map PyData.int)≤1
 | []=>by simp [PyData.depthAll]
 | i::l=>by
   have:=jZ l
   simp only [List.map_cons,PyData.depthAll,PyData.depth]
   omega
@[simp] theorem Ei (i j:Int):(rd (gA (.int i) (.int j)):DM D)=Pure.pure (.bl (decide (i=j))):=dG fun M=>by
 simp [gA,eqB,eqP,toPy,PyData.canLay0,PyData.depth,PyData.eqv]
 rw [Bool.eq_iff_iff];simp
@[simp] theorem Er (i j:Int):(rd (lH (.int i) (.int j)):DM D)=Pure.pure (.bl (!decide (i=j))):=dG fun M=>by
 simp [lH,eqB,eqP,toPy,PyData.canLay0,PyData.depth,PyData.eqv]
 rw [Bool.eq_iff_iff];simp
@[simp] theorem Hj (i j:Str):(rd (gA (.str i) (.str j)):DM D)=Pure.pure (.bl (decide (i=j))):=id rfl
@[simp] theorem Hl (i j:Str):(rd (lH (.str i) (.str j)):DM D)=Pure.pure (.bl (!decide (i=j))):=id rfl
theorem sZ (a b:List Int):eqB (.tup (a.map D.int)) (.tup (b.map D.int))=some (decide (a=b)):=by
 have:=jZ a
 have h:∀ n,n≤1->1 + n≤60:=fun n h=>by omega
 simp only [eqB,eqP,toPy,lw,Option.map_some,PyData.canLay0,lay_ints,PyData.depth,PyData.eqv,mq]
 simp
 omega
theorem m9 (l:List Nat):nT l=.tup ((l.map fun n:Nat=>(n:Int)).map D.int):=by simp [nT,nD,Function.comp_def]
theorem oE {a b:List Nat}:(a.map fun n:Nat=>(n:Int))=(b.map fun n:Nat=>(n:Int)) ↔ a=b:=List.map_inj_right fun x y (h:(x:Int)=(y:Int))=>by omega
@[simp] theorem Hh (a b:List Nat):(rd (gA (nT a) (nT b)):DM D)=Pure.pure (.bl (decide (a=b))):=dG fun M=>by
 rw [m9,m9,gA,sZ];simp [oE]
@[simp] theorem Hk (a b:List Nat):(rd (lH (nT a) (nT b)):DM D)=Pure.pure (.bl (!decide (a=b))):=dG fun M=>by
 rw [m9,m9,lH,sZ];simp [oE]
theorem vg:∀ l:List Bool,fQ (l.map D.bl)=some l
 | []=>rfl
 | b::l=>by simp [fQ,zb,vg l]
@[simp] theorem xH (l:List Bool):(rd (p8 [.lst (l.map D.bl)]):DM D)=Pure.pure (.bl (l.all id)):=dG fun M=>by
 simp [p8,bc,vg]
theorem xU:∀ l:List Nat,fQ (l.map nD)=some (l.map fun n=>n != 0)
 | []=>rfl
 | b::l=>by
   simp only [List.map_cons,fQ,xU l,nD,zb]
   congr 2
   rw [Bool.eq_iff_iff];simp
@[simp] theorem GZ (l:List Nat):(rd (Br [nT l]):DM D)=Pure.pure (.bl (l.any (·!= 0))):=dG fun M=>by
 simp [Br,nT,xU,List.any_map]
theorem fL {d:D}{t c:String} (h:∀ M,tyOf d M=some t) (hc:tys.contains c=true):(rd (eE [d,.ty c]):DM D)=Pure.pure (.bl (vX t c)):=dG fun M=>by
 simp only [eE,h M,Option.bind_some,hc,if_true]
@[simp] theorem Ha (b:Bool):(rd (uy (.bl b)):DM Bool)=Pure.pure b:=id rfl
@[simp] theorem Hc (l m:List D):oX [.tup l,.tup m]=some (.fix (pairs l m)):=id rfl
def Rn {α:Type} (m:DM α) (M:Mo) (Q:α->Mo->Prop):Prop:=∃ a M',m M=some (.ok a,M')∧Q a M'
theorem Rn.bind {α β:Type}{m:DM α}{f:α->DM β}{M:Mo}{Q1:α->Mo->Prop}{Q:β->Mo->Prop} (h:Rn m M Q1) (k:∀ a M',Q1 a M'->Rn (f a) M' Q):Rn (m >>= f) M Q:=by
 obtain ⟨a,M',e,q⟩:=h
 obtain ⟨b,M2,e2,q2⟩:=k a M' q
 refine ⟨b,M2,?_,q2⟩
 show DM.bind m f M=_
 unfold DM.bind
 rw [e];exact e2
theorem Rn.pure {α:Type}{a:α}{M:Mo}{Q:α->Mo->Prop} (q:Q a M):Rn (Pure.pure a) M Q:=⟨a,M,rfl,q⟩
theorem Rn.mono {α:Type}{m:DM α}{M:Mo}{Q R:α->Mo->Prop} (h:Rn m M Q) (k:∀ a M',Q a M'->R a M'):Rn m M R:=by
 obtain ⟨a,M',e,q⟩:=h
 exact ⟨a,M',e,k a M' q⟩
theorem Rn.rd {α:Type}{f:Mo->Option α}{M:Mo}{a:α}{Q:α->Mo->Prop} (h:f M=some a) (q:Q a M):Rn (L3.rd f) M Q:=⟨a,M,by unfold L3.rd;rw [h];rfl,q⟩
theorem Rn.bindRd {α β:Type}{f:Mo->Option α}{k:α->DM β}{M:Mo} (a:α) {Q:β->Mo->Prop} (h:f M=some a) (q:Rn (k a) M Q):Rn (L3.rd f >>= k) M Q:=Rn.bind (Rn.rd h (Q:=fun b M'=>b=a∧M'=M) ⟨rfl,rfl⟩) (fun b M' ⟨e1,e2⟩=>by rw [e1,e2];exact q)
theorem Rn.call {p n:Nat}{fb:aa->DM Fl}{ds:List D}{M:Mo}{Q:D->Mo->Prop} (hp:ds.length=p) (h:Rn (fb (cA n ds)) M fun r M'=>∃ d,r=.rt d∧Q d M'):Rn (aL p n fb ds) M Q:=by
 unfold aL
 rw [if_pos hp]
 refine Rn.bind h fun r M' ⟨d,e,q⟩=>?_
 subst e
 exact Rn.pure q
structure Sb (p:Nat) (M M':Mo):Prop where
 le:M.length≤M'.length
 keep:∀ q,q≠p->q<M.length->M'[q]?=M[q]?
theorem Sb.refl {p:Nat}{M:Mo}:Sb p M M:=⟨Nat.le_refl _,fun _ _ _=>rfl⟩
theorem Sb.trans {p:Nat}{M M1 M2:Mo} (h:Sb p M M1) (k:Sb p M1 M2):Sb p M M2:=⟨Nat.le_trans h.le k.le,fun q hq hl=>(k.keep q hq (Nat.lt_of_lt_of_le hl h.le)).trans (h.keep q hq hl)⟩
theorem Sb.set {p:Nat}{M:Mo}{o:DO}:Sb p M (M.set p o):=⟨by simp,fun q hq hl=>List.getElem?_set_ne (fun z=>hq z.symm)⟩
theorem Sb.push {p:Nat}{M:Mo}{o:DO}:Sb p M (M++[o]):=⟨by simp,fun q hq hl=>List.getElem?_append_left hl⟩
theorem Sb.at {p q:Nat}{M M':Mo}{o:DO} (h:Sb p M M') (hq:q≠p) (e:M[q]?=some o):M'[q]?=some o:=(h.keep q hq (List.getElem?_eq_some_iff.mp e).1).trans e
theorem Sb.new {p q:Nat}{M M':Mo} (h:M'.length=M.length∨M.length≤M'.length) (hq:M.length≤q) {M2:Mo} (k:Sb q M' M2) (h1:Sb p M M'):Sb p M M2:=⟨Nat.le_trans h1.le k.le,fun r hr hl=>(k.keep r (by omega) (Nat.lt_of_lt_of_le hl h1.le)).trans (h1.keep r hr hl)⟩
theorem Ae {l:List D}{M:Mo} (h:l.length≤1000000):eQ l M=some (.ok (.ref M.length),M++[.lst l]):=by
 have:fO l=true:=by unfold fO;exact decide_eq_true (by show l.length≤2 ^ 24;omega)
 unfold eQ
 rw [if_pos this]
theorem Rn.eQ {l:List D}{M:Mo}{β:Type}{k:D->DM β}{Q:β->Mo->Prop} (h:l.length≤1000000) (q:Rn (k (.ref M.length)) (M++[.lst l]) Q):Rn (L3.eQ l >>= k) M Q:=Rn.bind ⟨_,_,Ae h,(⟨rfl,rfl⟩:D.ref M.length=.ref M.length∧M++[.lst l]=M++[.lst l])⟩ (Q1:=fun a M'=>a=.ref M.length∧M'=M++[.lst l]) (fun a M' ⟨e1,e2⟩=>by rw [e1,e2];exact q)
theorem fJ {n:Nat}{M:Mo}{l:List D}{i:Nat}{a:D} (h:M[n]?=some (.lst l)) (hi:l[i]?=some a):dI (.ref n) (.int (i:Int)) M=some a:=by
 show (bc (.ref n) M).bind _=_
 simp only [bc,h,Option.bind_some]
 exact lV hi
theorem Cr {n i:Nat} (h:i<n):ixN n (i:Int)=some i:=by
 unfold ixN
 rw [if_pos (by omega),if_pos (by omega)];simp
theorem dY {n:Nat}{M:Mo}{l:List D}{i:Nat}{v:D} (h:M[n]?=some (.lst l)) (hi:i<l.length):iM (.ref n) (.int (i:Int)) v M=some (.ok (),M.set n (.lst (l.set i v))):=by
 delta iM
 dsimp only
 rw [h]
 dsimp only
 rw [Cr hi]
theorem zR {n:Nat}{M:Mo}{l:List D}{v:D} (h:M[n]?=some (.lst l)) (hl:l.length<1000000):yo (.ref n) [v] M=some (.ok .non,M.set n (.lst (l++[v]))):=by
 have:l.length<sizeLine:=by show l.length<2 ^ 24;omega
 delta yo
 dsimp only
 rw [h]
 dsimp only
 rw [if_pos this]
theorem Rn.run {α β:Type}{m:DM α}{k:α->DM β}{M M':Mo}{a:α}{Q:β->Mo->Prop} (h:m M=some (.ok a,M')) (q:Rn (k a) M' Q):Rn (m >>= k) M Q:=Rn.bind (Q1:=fun b M2=>b=a∧M2=M') ⟨a,M',h,rfl,rfl⟩ (fun b M2 ⟨e1,e2⟩=>by rw [e1,e2];exact q)
theorem bQ {tg:D->aa->DM aa}{fb:aa->DM Fl} (I:Nat->aa->Mo->Prop):∀ (ds:List D) (i:Nat) (δ:aa) (M:Mo),I i δ M->(∀ j d δ M,ds[j]?=some d->I (i + j) δ M->Rn (tg d δ >>= fb) M fun r M'=>∃ δ',r=.nx δ'∧I (i + j + 1) δ' M')->Rn (forL tg fb ds δ) M fun r M'=>∃ δ',r=.nx δ'∧I (i + ds.length) δ' M'
 | [],i,δ,M,h,_=>Rn.pure ⟨δ,rfl,h⟩
 | d::ds,i,δ,M,h,st=>by
   have s:=st 0 d δ M rfl h
   have e:forL tg fb (d::ds) δ=(tg d δ >>= fb) >>= fun r=>match r with
    | .nx δ2=>forL tg fb ds δ2
    | .ct δ2=>forL tg fb ds δ2
    | .bk δ2=>Pure.pure (.nx δ2)
    | .rt d=>Pure.pure (.rt d):=by rw [cY];rfl
   rw [e]
   refine Rn.bind s fun r M' ⟨δ',e,h'⟩=>?_
   subst e
   have ih:=bQ I ds (i + 1) δ' M' h' (fun j d δ M hj hI=>by
    have:=st (j + 1) d δ M (by simpa using hj) (by rw [show i + (j + 1)=i + 1 + j by omega];exact hI)
    rw [show i + 1 + j + 1=i + (j + 1) + 1 by omega];exact this)
   rw [show i + (d::ds).length=i + 1 + ds.length by simp;omega]
   exact ih
section
variable {X:Cx}{E:XK}
theorem wQ:PGet X (fun x y H Q=>∃ p xs i v,x=.ref p∧y=.int i∧0≤i∧SqL X.K H p xs∧atI xs i=some v∧Q v H):=by
 intro pins s σ H x y ov iv Q I rx ry h
 obtain ⟨p,xs,i,z,rfl,rfl,h0,hq,he,q⟩:=h
 cases rx
 obtain ⟨t,rfl⟩:=ry
 obtain ⟨its,r,pl,hz⟩:=I.list hq
 obtain ⟨j,h1,h2,h3,h4,h5⟩:=atI_get he
 obtain ⟨w,ew,rw'⟩:=r.get h2
 have hl:=r.length
 have hn:=line63
 have fin:EP X pins σ Q w s:=⟨z,H,I,rw',q⟩
 have hj:i.toNat=j:=by
  rw [seqIndex_of h0 h5] at h1
  exact Option.some.inj h1
 exact wpAny_getItem_list pl.isList h0 (by omega) (by rw [hj];simpa using ew) fin
def zA:D->D->Mo->Option D
 | x,.int i,M=>if 0≤i then (bc x M).bind fun l=>atI l i else none
 | _,_,_=>none
theorem DR:PGet X (rD X.mg E (fun x y=>rd (zA x y))):=by
 intro pins s σ H x y ov iv Q I rx ry h
 obtain ⟨ρ,M,dx,dy,j,cx,cy,go⟩:=h
 obtain ⟨d,e,p⟩:=go.rd
 unfold zA at e
 split at e
 ·cases cy
  split at e
  ·rename_i h0
   obtain ⟨l,h1,e1⟩:=Option.bind_eq_some_iff.mp e
   obtain ⟨a,xs,rfl,ha,c⟩:=dM j cx h1
   obtain ⟨w,e2,cw⟩:=c.at e1
   exact wQ (X:=X) pins s σ H _ _ ov iv Q I rx ry ⟨_,_,_,_,rfl,rfl,h0,SqL.of ha,e2,p ρ H _ .refl j cw⟩
  ·cases e
 ·cases e
theorem qd {o i e:Expr}{fo fi fe:aa->DM D}{op:Operator}{gop:D->D->DM D}{tpos pos:Pos} (ho:DE X E o fo) (hi:DE X E i fi) (hop:cz X E (inplaceOp op) gop) (he:DE X E e fe)
  (ha:∀ ov iv new,augStore i ov iv new=(do holding [new,ov,iv] (setItem ov iv new);release [new,ov,iv] [];pure .next):=by intros;rfl) :
  DS X E (.AugAssign (.Subscript o i tpos) op e pos) (fun δ=>fo δ >>= fun a=>fi δ >>= fun k=>rd (zA a k) >>= fun x=>fe δ >>= fun y=>gop x y >>= fun z=>iM a k z >>= fun _=>pure (.nx δ)):=
 ⟨PS.mono (ps_augS (tip:=rD X.mg E gop) ho.h hi.h (DR (E:=E)) he.h hop (jm (E:=E)) ha) fun D σ H h=>by
  obtain ⟨ρ,δ,M,ev,j,g1⟩:=h
  refine ⟨ρ,δ,M,ev,j,g1.bind fun ρ1 H1 M1 a da e1 j1 c1 g2=>⟨ρ1,δ,M1,ev.mono e1,j1,g2.bind fun ρ2 H2 M2 k dk e2 j2 c2 g3=>⟨ρ2,M2,da,dk,j2,c1.mono e2,c2,g3.bind fun ρ3 H3 M3 x dx e3 j3 c3 g4=>?_⟩⟩⟩
  have ev3:=((ev.mono e1).mono e2).mono e3
  refine ⟨ρ3,δ,M3,ev3,j3,g4.bind fun ρ4 H4 M4 y dy e4 j4 c4 g5=>⟨ρ4,M4,dx,dy,j4,c3.mono e4,c4,g5.bind fun ρ5 H5 M5 z dz e5 j5 c5 g6=>?_⟩⟩
  refine ⟨ρ5,M5,da,dk,dz,j5,(((c1.mono e2).mono e3).mono e4).mono e5,((c2.mono e3).mono e4).mono e5,c5,g6.bind fun ρ6 H6 M6 _ _ e6 j6 _ g7=>?_⟩
  exact g7.pure ρ6 H6 σ .refl j6 (((ev3.mono e4).mono e5).mono e6)⟩
end
end L3
namespace L3
open PySem PySem.Spec L2
open PyProof.Rows hiding St
theorem yz {X:Cx}{E:XK}{i:Nat}{x:Str}{px spos:Pos}{scope:Scope}{cl:List (Str×Addr)}{own:List Str}{js:List Nat}{fr:List Str}{elt t0 i0:Expr}{f0:List Expr}{gs:List Comprehension}{pos:Pos}{fi:aa->DM Itn}{fg:D->aa->DM aa}{ft:aa->DM Bool}{fb:aa->List D->DM (aa×List D)}
  {bodyK:Cx->Addr->Sem Fin->Sem Fin}{W:Cx->Addr->(Shared->Prop)->Shared->Prop} (o:Out) (hN:X.N.Nodup) (hi0:X.N[i]?=some x) (hx:Loc X.env.scope x) (hc:X.calm=true) (T:CompG X scope cl own js fr) (hi:DI X E t0 i0 fi)
  (hturn:∀ (Y:Cx) it acc,compTurn (.ListComp elt (⟨t0,i0,f0,0⟩::gs) scope pos) 0 (.ref it) (.ref acc) Y.env=turnOf ⟨t0,i0,f0,0⟩ (bodyK Y acc) (.compLoop (.ListComp elt (⟨t0,i0,f0,0⟩::gs) scope pos) 0 (.ref it) (.ref acc) Y.env) (.ref it) Y.env)
  (hW:∀ Y acc,mY Y.prog Y.w Y.A (bodyK Y acc) (W Y acc)) (hmono:∀ Y acc P P' s,(∀ s,P s->P' s)->W Y acc P s->W Y acc P' s)
  (hg:∀ pins m fp C s₂ H₂,DG (X.bj pins scope (cellsFrom m scope.names cl) (own++fr) fp C s₂ H₂) E0 t0 fg) (ht:∀ pins m fp C s₂ H₂,DTs (X.bj pins scope (cellsFrom m scope.names cl) (own++fr) fp C s₂ H₂) E0 f0 ft)
  (hb:∀ pins m fp C s₂ H₂ acc,BodyOk (X.bj pins scope (cellsFrom m scope.names cl) (own++fr) fp C s₂ H₂) acc (W (X.bj pins scope (cellsFrom m scope.names cl) (own++fr) fp C s₂ H₂) acc) fb)
  (hsw:swapsWith (.ListComp elt (⟨t0,i0,f0,0⟩::gs) scope pos) (some (.Name x px)) spos.line X.env=pure true:=by rfl)
  (hs:∀ y,foldedSetIterable i0 X.env y=pure y:=by intro _;rfl) (hf:X.fn x=true∨X.env.scope.names.lookup x=some .local:=by first | exact .inl rfl | exact .inr rfl | assumption) :
  DS X E (.Assign [.Name x px] (.ListComp elt (⟨t0,i0,f0,0⟩::gs) scope pos) spos) (fun δ=>(fi δ >>= fun it=>eX (cI fg ft fb it (aM own.length js δ) []) >>= fun p=>o.run p.2) >>= fun d=>pure (.nx (δ.set i (some d)))):=⟨by
 intro pins s σ H D I h
 obtain ⟨ρ,δ,M,ev,j,g0⟩:=h
 let Q:VK:=fun v H'=>D.nx (σ.set i (some v)) H'
 have g1:Go X.mg E (Cv X.mg) Q ρ H (fi δ >>= fun it=>eX (cI fg ft fb it (aM own.length js δ) []) >>= fun p=>o.run p.2) M:=g0.bind fun ρ1 H1 M1 v d e1 j1 c1 g2=>g2.pure ρ1 H1 _ .refl j1 ((ev.mono e1).set c1)
 rw [exec_Assign_Name_used _ _ _ _ hsw]
 refine wpAny_bind (wpAny_standAt (wpAny_bind ?_))
 show wpAny _ _ (do let _ ←comprehension (.ListComp elt (⟨t0,i0,f0,0⟩::gs) scope pos) scope X.env _ (newList []) false (eval i0 X.env) (some (assign (.Name x px) X.env))) _ _ s
 refine wpAny_bind (wpAny_mono (wpAny_comprehension_free (cl:=cl) (use:=some (assign (.Name x px) X.env)) (Q:=fun _ s'=>∃ v H',Inv X pins (σ.set i (some v)) H' s'∧Q v H') rfl hs T.clos T.kind T.names ?_) (fun _ s' ⟨v,H',I',q'⟩=>wpAny_pure (wpAny_pure ⟨_,H',I',q'⟩)) fun _ _ e=>e)
 refine thn (hi.h pins s σ H (fun Jt H1=>∃ ρ1 M1 it,Ext ρ H ρ1 H1∧J X.mg ρ1 M1 H1∧ItOk X.mg ρ1 H1 Jt it∧Go X.mg E (Cv X.mg) Q ρ1 H1 (eX (cI fg ft fb it (aM own.length js δ) []) >>= fun p=>o.run p.2) M1) I
  ⟨ρ,δ,M,ev,j,g1.bind fun ρ1 H1 M1 Jt it e1 j1 iok g2=>⟨ρ1,M1,it,e1,j1,iok,g2⟩⟩) fun v s1 h1=>thn h1 fun itv s2 h2=>?_
 obtain ⟨it,fp,tn,Jt,H2,rfl,I2,Tn,st2,f2,ρ1,M1,itn,x1,j1,iok,g2⟩:=h2
 have hrun:∃ δf lf Mf,cI fg ft fb itn (aM own.length js δ) [] M1=some (.ok (δf,lf),Mf)∧Go X.mg E (Cv X.mg) Q ρ1 H2 (o.run lf) Mf:=by
  obtain ⟨r,e,p⟩:=g2
  have e:DM.bind _ _ M1=some r:=e
  unfold DM.bind at e
  split at e
  ·cases e
  ·rename_i c M' em
   obtain ⟨a,M'',_,z⟩:=pJ em
   cases z
  ·rename_i a M' em
   obtain ⟨a',M'',e1,z⟩:=pJ em
   cases z
   exact ⟨a.1,a.2,M',e1,r,e,p⟩
 obtain ⟨δf,lf,Mf,hrun,g3⟩:=hrun
 unfold newList
 refine wpAny_newObj_type (qQ ?_)
 have hlt:∀ b∈fp,b<s2.heap.objs.size:=fun b hb=>by
  obtain ⟨o,e,_⟩:=Tn.obj _ _ st2 b hb
  exact Heap.lt_size e
 dsimp only
 generalize hP:s2.heap.push { cls:=.type "list",dict:=none,data:=.seq ([]:List Value).toArray }=hp1
 have hCs:hp1.objs.size=s2.heap.objs.size + 1:=by rw [←hP,Heap.size_push]
 have hCe:hp1.objs.size + 1=(hp1.push { cls:=.type "dict",data:=.dict #[] }).objs.size:=by rw [Heap.size_push]
 have hC:s2.heap.objs.size≤hp1.objs.size:=by omega
 have hne:hp1.objs.size≠s2.heap.objs.size:=by omega
 have old1:∀ b o,s2.heap.get? b=some o->hp1.get? b=some o:=fun b o e=>by rw [←hP];exact Heap.get?_push_of_some _ e
 have old:∀ b o,s2.heap.get? b=some o->(pushCells (hp1.push { cls:=.type "dict",data:=.dict #[] }) scope.names).get? b=some o:=fun b o e=>pushCells_keeps _ _ _ _ (Heap.get?_push_of_some _ (old1 b o e))
 have new:∃ n,(pushCells (hp1.push { cls:=.type "dict",data:=.dict #[] }) scope.names).get? s2.heap.objs.size=some { cls:=.type "list",data:=.seq #[] n }:=⟨_,pushCells_keeps _ _ _ _ (Heap.get?_push_of_some _ (by rw [←hP];exact Heap.get?_push_size _ rfl))⟩
 have ns:(pushCells (hp1.push { cls:=.type "dict",data:=.dict #[] }) scope.names).Ns hp1.objs.size fun _=>none:=(Heap.Ns.new hp1 (.type "dict")).keeps (pushCells_keeps _ _)
 have hfree:H2 s2.heap.objs.size=none:=I2.hok.fresh (Nat.le_refl _)
 have IC:=qI (t':=s2.toks) T I2 f2 hlt old (Nat.le_refl _) hC hne hCe (Nat.le_trans hC (Nat.le_succ _)) (Nat.lt_succ_self _) (Nat.lt_succ_of_le hC) rfl new ns
 have OK:=IC.ok
 have fok:∀ H',(∀ b∈fp,H' b=none)->∀ b∈fp,FpOk (X.bj pins scope (cellsFrom (hp1.objs.size + 1) scope.names cl) (own++fr) fp hp1.objs.size s2 H2) [] H' b:=fun H' hn b hb=>by
  obtain ⟨_,g2,g3,g4,g5,g6⟩:=f2 b hb
  refine ⟨hn b hb,Nat.ne_of_lt (Nat.lt_of_lt_of_le (hlt b hb) hC),fun hm=>?_,.inl hb,(OK.exf b hb).2,fun p hp=>g6 p (by simpa using hp)⟩
  rcases List.mem_cons.mp (I2.stkSub _ hm) with z | z
  ·exact g2 z
  ·exact g3 z
 have fp1:∀ b∈fp,upd H2 s2.heap.objs.size (.lst []) b=none:=fun b hb=>by rw [upd_ne (Nat.ne_of_lt (hlt b hb))];exact (f2 b hb).1
 have jb:=j1.begin hfree
 have nf:=j1.fresh hfree
 have st:Cst (X.bj pins scope (cellsFrom (hp1.objs.size + 1) scope.names cl) (own++fr) fp hp1.objs.size s2 H2) [] s2.heap.objs.size (ρ1.hold s2.heap.objs.size) (upd H2 s2.heap.objs.size (.lst [])) (aM own.length js δ) [] M1 fp
   { s2 with heap:=pushCells (hp1.push { cls:=.type "dict",data:=.dict #[] }) scope.names,toks:=s2.toks }:=
  ⟨_,_,_,[],IC,.refl (fun z=>nf (.inl z)),jb,(uM (ev.mono x1) _ _).kp (kh hfree),upd_same,.nil,fp1⟩
 have tn0:tn 0 (pushCells (hp1.push { cls:=.type "dict",data:=.dict #[] }) scope.names):=Tn.keep _ _ _ st2 (fun b _ o e=>old b o e)
 have loop:codeAny (model X.prog X.w) X.A (.compLoop (.ListComp elt (⟨t0,i0,f0,0⟩::gs) scope pos) 0 (.ref it) (.ref s2.heap.objs.size) (compEnvC scope (cellsFrom (hp1.objs.size + 1) scope.names cl) hp1.objs.size X.env))
   (compPost (model X.prog X.w) X.A X.xe (some (assign (.Name x px) X.env)) (fun _ s'=>∃ v H',Inv X pins (σ.set i (some v)) H' s'∧Q v H') (.ref s2.heap.objs.size) hp1.objs.size) { s2 with heap:=pushCells (hp1.push { cls:=.type "dict",data:=.dict #[] }) scope.names,toks:=s2.toks }:=by
  refine tR (X:=X.bj pins scope (cellsFrom (hp1.objs.size + 1) scope.names cl) (own++fr) fp hp1.objs.size s2 H2) hc rfl (hturn _ _ _) (hW _ _) (hmono _ _) (hg ..) (ht ..) (hb pins (hp1.objs.size + 1) fp hp1.objs.size s2 H2 s2.heap.objs.size) Tn iok (.head _) (kh hfree) fok st tn0 hrun fun s' c'=>?_
  obtain ⟨σ4,H4,ρ4,ys,I4,x4,j4,ev4,ha4,cl4,fr4⟩:=c'.ex
  obtain ⟨m4,hn4,_⟩:=I4.loc
  have hsb0:Heap.SameBut hp1.objs.size s'.heap s'.heap:=⟨rfl,fun _ _=>rfl⟩
  have un:=xW I4.base hsb0 hC
  have ok4:=uO I4.hok hsb0 I4.free
  have IO:Inv X pins σ H4 s':=I2.call' (s':=s') (ch:=fp) (I4.os) un ok4 I4.bare (fun b hb=>by
   obtain ⟨_,g2,g3,g4,g5,g6⟩:=f2 b hb
   exact ⟨g4,g2,g5,g6⟩)
  have fC:FpOk X pins H4 hp1.objs.size:=I2.fpOk hC I4.free
  obtain ⟨fC1,fC2,fC3,fC4,fC5,fC6⟩:=fC
  show wpAny _ _ (assign (.Name x px) X.env (.ref s2.heap.objs.size)) _ _ s'
  refine wpAny_assign_Name (store_ok2 IO hN hi0 hx (v:=.ref s2.heap.objs.size) rfl (fun s'' I'' hsb=>?_) hf)
  obtain ⟨a,sb,ha⟩:=hsb
  have nC:hp1.objs.size≠a:=by
   rcases ha with z | z
   ·rw [z];exact fC2
   ·exact fun e=>fC5 x a z e.symm
  refine ⟨m4,hn4.sameBut sb nC,fun h' hsb'=>⟨.ref s2.heap.objs.size,H4,?_,o.fin hfree nf x4 j4 ha4 cl4 g3⟩⟩
  exact I''.turned (it:=hp1.objs.size) (t':=s''.toks) (fun b o hb e=>hsb'.extBut b o hb e) fC1 fC2 fC4 (fun y c e=>fC5 y c e) fC6
 show codeAny _ _ (.compStart _ 0 (.ref it) (.ref s2.heap.objs.size) (compEnvC scope (cellsFrom (hp1.objs.size + 1) scope.names cl) hp1.objs.size X.env)) _ _
 exact mV rfl rfl loop (Tn.self X.A 0 _ _ _ tn0 loop)⟩
theorem iz {X:Cx}{E:XK}{i:Nat}{x:Str}{px spos:Pos}{scope:Scope}{cl:List (Str×Addr)}{own:List Str}{js:List Nat}{fr:List Str}{elt t0 i0:Expr}{f0:List Expr}{pos:Pos}{fi:aa->DM Itn}{fg:D->aa->DM aa}{ft:aa->DM Bool}{fe:aa->DM D}
  (o:Out) (hN:X.N.Nodup) (hi0:X.N[i]?=some x) (hx:Loc X.env.scope x) (hc:X.calm=true) (T:CompG X scope cl own js fr) (hi:DI X E t0 i0 fi)
  (hg:∀ pins m fp C s₂ H₂,DG (X.bj pins scope (cellsFrom m scope.names cl) (own++fr) fp C s₂ H₂) E0 t0 fg) (ht:∀ pins m fp C s₂ H₂,DTs (X.bj pins scope (cellsFrom m scope.names cl) (own++fr) fp C s₂ H₂) E0 f0 ft)
  (he:∀ pins m fp C s₂ H₂,DE (X.bj pins scope (cellsFrom m scope.names cl) (own++fr) fp C s₂ H₂) E0 elt fe)
  (hsw:swapsWith (.ListComp elt [⟨t0,i0,f0,0⟩] scope pos) (some (.Name x px)) spos.line X.env=pure true:=by rfl)
  (hs:∀ y,foldedSetIterable i0 X.env y=pure y:=by intro _;rfl) (hf:X.fn x=true∨X.env.scope.names.lookup x=some .local:=by first | exact .inl rfl | exact .inr rfl | assumption) :
  DS X E (.Assign [.Name x px] (.ListComp elt [⟨t0,i0,f0,0⟩] scope pos) spos) (fun δ=>(fi δ >>= fun it=>eX (cI fg ft (aV fe) it (aM own.length js δ) []) >>= fun p=>o.run p.2) >>= fun d=>pure (.nx (δ.set i (some d)))):=
 yz (bodyK:=fun Y acc=>m7 elt (.ref acc) Y.env) (W:=fun Y acc P s=>wpAny (model Y.prog Y.w) Y.A (eval elt Y.env) (fun x s1=>wpAny (model Y.prog Y.w) Y.A (call (.builtin "list.append") [.ref acc,x]) (fun _ s2=>P s2) (fun _ _=>False) s1) (fun _ _=>False) s) o hN hi0 hx hc T hi
  (fun Y it acc=>zL ..) (fun Y acc=>sY) (fun Y acc P P' s hp h=>wpAny_mono h (fun x s1 h1=>wpAny_mono h1 (fun _ s2 h2=>hp _ h2) fun _ _ z=>z) fun _ _ z=>z) hg ht (fun pins m fp C s₂ H₂ acc=>qg rfl (he ..)) hsw hs hf
end L3
namespace L3
open PySem PySem.Spec L2
structure OCls (K:PySem.W.Frag) (mg:Str->Option Value) (c:Str) (C:Addr) (fs:List Str):Prop where
 at_:mg c=some (.ref C)
 cls:L2.Cls K C
 no:∀ f∈fs,NoAttr K C f
theorem oG {mg:Str->Option Value}{ρ:Rh}{H:Hp}{f:Str}:∀ {ns:List Str}{xs:List V}{ds:List D}{d:D},Cvs mg ρ H xs ds->(ns.zip ds).lookup f=some d->∃ v,(ns.zip xs).lookup f=some v∧Cv mg ρ H v d
 | [],_,_,_,_,e=>by simp at e
 | n::ns,_,_,_,.nil,e=>by simp at e
 | n::ns,_,_,d,.cons (v:=v) c cs,e=>by
   rw [List.zip_cons_cons,List.lookup_cons] at e ⊢
   split at e
   ·cases e;exact ⟨v,rfl,c⟩
   ·exact oG cs e
def vA (c f:Str):D->Mo->Option D
 | .obj k ns vs,_=>if k=c then (ns.zip vs).lookup f else none
 | .ref n,M=>match M[n]? with
   | some (.ins k ns vs)=>if k=c then (ns.zip vs).lookup f else none
   | _=>none
 | _,_=>none
theorem wF {X:Cx}{E:XK}{K:PySem.W.Frag}{mg:Str->Option Value}{c f:Str}{C:Addr}{fs:List Str}{e:Expr}{fe:aa->DM D}{pos:Pos} (O:OCls K mg c C fs) (hf:f∈fs) (he:DE X E e fe)
  (hb:attributeBase e f X.env (eval e X.env)=eval e X.env:=by rfl) (hK:X.K=K:=by rfl) (hM:X.mg=mg:=by rfl):DE X E (.Attribute e f pos) (fun δ=>fe δ >>= fun x=>rd (vA c f x)):=by
 subst hK hM
 refine ⟨PE.mono (pe_fld he.h hb) fun σ H Q h=>?_⟩
 obtain ⟨ρ,δ,M,ev,j,g1⟩:=h
 refine ⟨ρ,δ,M,ev,j,g1.bind fun ρ1 H1 M1 x dx e1 j1 c1 g2=>?_⟩
 obtain ⟨d,ed,q⟩:=g2.rd
 unfold vA at ed
 split at ed
 ·split at ed
  ·rename_i hk
   subst hk
   cases c1 with
   | obj n m h l cs=>
     obtain ⟨v,hv,cv⟩:=oG cs ed
     rw [O.at_] at m;cases m
     exact ⟨_,_,_,_,v,rfl,h,O.cls,O.no f hf,hv,q ρ1 H1 _ .refl j1 cv⟩
  ·cases ed
 ·split at ed
  ·split at ed
   ·rename_i hm hk
    subst hk
    cases c1 with
    | ref hn=>
      obtain ⟨C',dx',xs,m,h,l,cs⟩:=j1.obj _ _ _ hn hm
      obtain ⟨v,hv,cv⟩:=oG cs ed
      rw [O.at_] at m;cases m
      exact ⟨_,_,_,_,v,rfl,h,O.cls,O.no f hf,hv,q ρ1 H1 _ .refl j1 cv⟩
   ·cases ed
  ·cases ed
 ·cases ed
def rB:List D->Mo->Option (List D)
 | [.int j],_=>if -(2 ^ 62)≤j∧j≤2 ^ 20 then some ((List.range j.toNat).map nD) else none
 | _,_=>none
theorem uI {mg:Str->Option Value}{ρ:Rh}{H:Hp}:∀ l:List Nat,Cvs mg ρ H (l.map fun i:Nat=>V.int (i:Int)) (l.map nD)
 | []=>.nil
 | n::l=>.cons (.int _) (uI l)
section
variable {X:Cx}{E:XK}{a:Expr}{fa:aa->DM (List D)}{p1 p2 pos1 pos2:Pos}
theorem wG (hc:X.calm=true) (hmL:X.mg "list"=none) (hm:X.mg "range"=none) (ha:DA X E [a] fa) (hgL:Gl X "list":=by rfl) (hg:Gl X "range":=by rfl) (hs:notStar a=true:=by rfl) :
  DE X E (.Call (.Name "list" p1) [.Call (.Name "range" p2) [a] [] pos2] [] pos1) (fun δ=>fa δ >>= fun l=>rd (fun M=>(rB l M).map D.lst)):=⟨PE.mono (xx hc hgL hmL hg hm ha.h.h hs) fun σ H Q h=>by
 obtain ⟨ρ,δ,M,ev,j,g1⟩:=h
 refine ⟨ρ,δ,M,ev,j,g1.bind fun ρ1 H1 M1 xs ds e1 j1 c1 g2=>?_⟩
 obtain ⟨d,ed,q⟩:=g2.rd
 obtain ⟨l,el,rfl⟩:=Option.map_eq_some_iff.mp ed
 unfold rB at el
 split at el
 ·split at el
  ·rename_i hb
   cases el
   obtain ⟨v,rfl,k⟩:=c1.one
   cases k
   exact ⟨_,rfl,hb.2,hb.1,fun p hp=>q ρ1 _ _ (.lay hp) (j1.lay _ hp) (.lst (j1.fresh hp) upd_same (uI _))⟩
  ·cases el
 ·cases el⟩
end
section
variable {X:Cx}{E:XK}
def vG:List D->Mo->Option D
 | [.bl b],_=>some (.int (if b then 1 else 0))
 | _,_=>none
theorem wA:CallR X (.type "int") (fun xs H Q=>∃ b,xs=[.bl b]∧Q (.int (if b then 1 else 0)) H):=by
 intro pins s σ H xs us Q I rs h
 obtain ⟨b,rfl,q⟩:=h
 cases rs with
 | cons r rr=>
   cases rr
   cases r
   exact call_int_bool ⟨.int (if b then 1 else 0),H,I.tok _,⟨_,rfl⟩,q⟩
theorem vy:CallD X E (.type "int") (fun l=>rd (vG l)):=CallD.of wA fun vs H Q ρ M ds d j c e q=>by
 unfold vG at e
 split at e
 ·cases e
  obtain ⟨v,rfl,k⟩:=c.one
  cases k
  exact ⟨_,rfl,q ρ H _ .refl j (.int _)⟩
 ·cases e
end
theorem cN {fg:D->aa->DM aa}{ft:aa->DM Bool}{fb:aa->List D->DM (aa×List D)} (I:Nat->aa->List D->Mo->Prop):∀ (ds:List D) (i:Nat) (δ:aa) (l:List D) (M:Mo),I i δ l M->
  (∀ j d δ l M,ds[j]?=some d->I (i + j) δ l M->Rn (fg d δ >>= fun δ1=>ft δ1 >>= fun b=>if b then fb δ1 l else Pure.pure (δ1,l)) M fun p M'=>I (i + j + 1) p.1 p.2 M')->Rn (bu fg ft fb ds δ l) M fun p M'=>I (i + ds.length) p.1 p.2 M'
 | [],i,δ,l,M,h,_=>Rn.pure h
 | d::ds,i,δ,l,M,h,st=>by
   have s:=st 0 d δ l M rfl h
   have e:bu fg ft fb (d::ds) δ l=(fg d δ >>= fun δ1=>ft δ1 >>= fun b=>if b then fb δ1 l else Pure.pure (δ1,l)) >>= fun p=>bu fg ft fb ds p.1 p.2:=by
    rw [cY]
    show (fg d δ >>= fun δ1=>ft δ1 >>= fun b=>(if b then fb δ1 l else Pure.pure (δ1,l)) >>= fun p=>bu fg ft fb ds p.1 p.2)=_
    congr 1
    funext δ1
    rw [cY]
   rw [e]
   refine Rn.bind s fun p M' h'=>?_
   have ih:=cN I ds (i + 1) p.1 p.2 M' h' (fun j d δ l M hj hI=>by
    have:=st (j + 1) d δ l M (by simpa using hj) (by rw [show i + (j + 1)=i + 1 + j by omega];exact hI)
    rw [show i + 1 + j + 1=i + (j + 1) + 1 by omega];exact this)
   rw [show i + (d::ds).length=i + 1 + ds.length by simp;omega]
   exact ih
theorem dC {α:Type}{m:DM α}{M:Mo}{Q:α->Mo->Prop} (h:Rn m M Q):Rn (eX m) M Q:=by
 obtain ⟨a,M',e,q⟩:=h
 exact ⟨a,M',by unfold eX;rw [e],q⟩
theorem qj {n:Nat}{M:Mo}{l:List D}{i:Nat}{a:D} (h:M[n]?=some (.lst l)) (hi:l[i]?=some a):zA (.ref n) (.int (i:Int)) M=some a:=by
 show (if (0:Int)≤(i:Int) then (bc (.ref n) M).bind _ else none)=_
 rw [if_pos (by omega)]
 simp only [bc,h,Option.bind_some]
 exact lV hi
theorem oM {n:Nat}{M:Mo}{β:Type}{k:D->DM β}{Q:β->Mo->Prop} (hn:n≤1000) (q:Rn (k (.ref M.length)) (M++[.lst ((List.replicate n 0).map nD)]) Q):Rn (vK (.lst [.int 0]) (nD n) >>= k) M Q:=by
 have e:t6 (.lst [.int 0]) (nD n) M=some ((List.replicate n 0).map nD):=by
  show vQ [.int 0] (n:Int)=_
  unfold vQ
  rw [if_pos (decide_eq_true ⟨by omega,by omega,by show _≤2 ^ 24;simp;omega⟩)]
  congr 1
  simp [List.flatten_replicate_singleton,nD]
 show Rn ((rd (t6 (.lst [.int 0]) (nD n)) >>= eQ) >>= k) M Q
 rw [cY]
 refine Rn.bindRd _ e ?_
 exact Rn.eQ (by simp;omega) q
end L3
namespace L3
open PySem PySem.Spec L2
open PyProof.Rows hiding St
def putN (f:Str):List Str->List Str
 | []=>[f]
 | g::r=>if g=f then g::r else g::putN f r
def iB {α:Type} (f:Str) (v:α):List Str->List α->List α
 | [],_=>[v]
 | g::r,x::xs=>if g=f then v::xs else x::iB f v r xs
 | _::_,[]=>[]
theorem ue (f:Str) (v:V):∀ (ns:List Str) (xs:List V),ns.length=xs.length->putF f v (ns.zip xs)=(putN f ns).zip (iB f v ns xs)
 | [],[],_=>rfl
 | g::r,x::xs,h=>by
   show putF f v ((g,x)::r.zip xs)=_
   unfold putF putN iB
   by_cases e:g=f
   ·rw [if_pos e,if_pos e,if_pos e];rfl
   ·rw [if_neg e,if_neg e,if_neg e,ue f v r xs (by simpa using h)];rfl
theorem uf {α:Type} (f:Str) (v:α):∀ (ns:List Str) (xs:List α),ns.length=xs.length->(putN f ns).length=(iB f v ns xs).length
 | [],[],_=>rfl
 | g::r,x::xs,h=>by
   unfold putN iB
   by_cases e:g=f
   ·rw [if_pos e,if_pos e];simpa using h
   ·rw [if_neg e,if_neg e,List.length_cons,List.length_cons,uf f v r xs (by simpa using h)]
theorem Cvs.put {mg:Str->Option Value}{ρ:Rh}{H:Hp}{f:Str}{v:V}{d:D} (c:Cv mg ρ H v d):∀ (ns:List Str) {xs:List V}{ds:List D},Cvs mg ρ H xs ds->Cvs mg ρ H (iB f v ns xs) (iB f d ns ds)
 | [],_,_,_=>.cons c .nil
 | g::r,_,_,.nil=>.nil
 | g::r,_,_,.cons h t=>by
   unfold iB
   by_cases e:g=f
   ·rw [if_pos e,if_pos e];exact .cons c t
   ·rw [if_neg e,if_neg e];exact .cons h (Cvs.put c r t)
def rK (c f:Str) (o d:D):DM Unit:=fun M=>match o with
 | .ref n=>match M[n]? with
   | some (.ins k ns vs)=>if k=c∧ns.length=vs.length∧ns.length<1000 then some (.ok (),M.set n (.ins k (putN f ns) (iB f d ns vs))) else none
   | _=>none
 | _=>none
section
variable {X:Cx}{E:XK}
theorem wK {K:PySem.W.Frag}{mg:Str->Option Value}{c f:Str}{C:Addr}{fs:List Str}{o value:Expr}{fo fv:aa->DM D}{pos pos':Pos} (O:OCls K mg c C fs) (hf:f∈fs) (ho:DE X E o fo) (hv:DE X E value fv)
  (hs:swapsWith value (some (.Attribute o f pos')) pos.line X.env=pure false:=by rfl) (hK:X.K=K:=by rfl) (hM:X.mg=mg:=by rfl) :
  DS X E (.Assign [.Attribute o f pos'] value pos) (fun δ=>fv δ >>= fun d=>fo δ >>= fun o=>rK c f o d >>= fun _=>pure (.nx δ)):=by
 subst hK hM
 refine ⟨PS.mono (ps_fld ho.h hv.h hs) fun D σ H h=>?_⟩
 obtain ⟨ρ,δ,M,ev,j,g1⟩:=h
 refine ⟨ρ,δ,M,ev,j,g1.bind fun ρ1 H1 M1 y dy e1 j1 c1 g2=>⟨ρ1,δ,M1,ev.mono e1,j1,g2.bind fun ρ2 H2 M2 x dx e2 j2 c2 g3=>?_⟩⟩
 obtain ⟨r,e,p⟩:=g3
 have e:DM.bind _ _ M2=some r:=e
 unfold DM.bind rK at e
 cases dx with
 | ref n=>
   dsimp only at e
   cases c2 with | ref hn=>
   rename_i a
   cases hm:M2[n]? with
   | none=>rw [hm] at e;cases e
   | some u=>
     rw [hm] at e
     cases u with
     | lst l=>cases e
     | dic ks l=>cases e
     | ins k ns vs=>
       dsimp only at e
       split at e
       ·cases e
       ·rename_i he;split at he<;>cases he
       ·rename_i he
        split at he
        ·rename_i hk
         obtain ⟨rfl,hl,hz⟩:=hk
         cases he
         cases e
         obtain ⟨C',dx',xs,m,hx,l,cs⟩:=j2.obj _ _ _ hn hm
         rw [O.at_] at m;cases m
         have c1':=c1.mono e2
         have x:Ext ρ2 H2 ρ2 (upd H2 a (.ins C dx' (putF f y (ns.zip xs)))):=.upd (List.mem_of_getElem? hn)
         refine ⟨a,C,dx',_,rfl,hx,O.cls,O.no f hf,?_,?_⟩
         ·rw [List.length_zip];omega
         refine p ρ2 _ σ x (j2.upd hn ?_) (((ev.mono e1).mono e2).mono x)
         refine ⟨C,dx',iB f y ns xs,O.at_,by rw [upd_same,ue f y ns xs l],uf f y ns xs l,?_⟩
         exact (Cvs.put c1' ns cs).mono x
        ·cases he
 | _=>cases e
end
structure MethD (P:Program) (w:World) (K:PySem.W.Frag) (mg:Str->Option Value) (base:Heap) (k:Nat) (c x qual:Str) (st:Stmt) (ps:List Str) (F:List D->DM D):Prop where
 ex:∃ C f fd,mg c=some (.ref C)∧FnOk P w K mg base (eZ P w) k f fd ps (xR mg F)∧Fun K x qual st f fd∧PySem.W.findIn K (.ref C) x=some (some (.ref f))∧PySem.W.isFn K (.ref f)=true∧L2.Cls K C
section
variable {P:Program}{w:World}{K:PySem.W.Frag}{mg:Str->Option Value}{base:Heap}{k:Nat}{C:Addr}{c x qual:Str}{N ps:List Str}{st:Stmt}{fb:aa->DM Fl}{f:Addr}{fd:FuncData}{is:List Int}
theorem Fy (F:Fun K x qual st f fd) (S:FnScope N ps (defScope st))
  (hbody:∀ (f:Addr) (cdv:Value) (A:Around) (outer:List Env) (s:Shared) (H:Hp) (E:XK),Room k (A.deeper (envOfC qual (defScope st) s.heap.objs.size f cdv))->
    DSs (fU P w K mg base N qual (defScope st) f cdv A outer s H E) E (defBody st) fb):FnOk P w K mg base (eZ P w) (k + 1) f fd ps (xR mg (aL ps.length N.length fb)):=by
 refine FJ F S (fun vs H Q E h=>?_) fun cdv A outer s H vs Q E hr h=>?_
 ·obtain ⟨ρ,M,ds,c,j,g⟩:=h
  rw [c.len];exact (bx.aL g).1
 obtain ⟨ρ,M,ds,c,j,g⟩:=h
 exact ⟨_,(hbody f cdv A outer s H E hr).h,ρ,_,M,j0 c,j,(bx.aL g).2⟩
theorem MethAt.okD (T:MethAt K C x qual st) (m:mg c=some (.ref C)) (cl:L2.Cls K C) (S:FnScope N ps (defScope st))
  (hbody:∀ (f:Addr) (cdv:Value) (A:Around) (outer:List Env) (s:Shared) (H:Hp) (E:XK),Room k (A.deeper (envOfC qual (defScope st) s.heap.objs.size f cdv))->
    DSs (fU P w K mg base N qual (defScope st) f cdv A outer s H E) E (defBody st) fb):MethD P w K mg base (k + 1) c x qual st ps (aL ps.length N.length fb):=by
 obtain ⟨f,fd,F,a,n⟩:=T.ex
 exact ⟨C,f,fd,m,Fy F S hbody,F,a,n,cl⟩
end
structure ClsD (P:Program) (w:World) (K:PySem.W.Frag) (mg:Str->Option Value) (base:Heap) (k:Nat) (c:Str) (F:List D->DM D):Prop where
 ex:∃ C ps sp,MethC P w K mg base k C "__init__" ps sp∧PySem.W.makesIn K C=true∧PySem.W.keepIn K (.ref C)=true∧mg c=some (.ref C) ∧
  ∀ ρ M H vs ds Q E,Cvs mg ρ H vs ds->J mg ρ M H->Go mg E (Cv mg) Q ρ H (F ds) M->∀ x dx,H x=none->H dx=none->dx≠x->sp (.ref x::vs) (upd (upd H dx (.own x)) x (.ins C dx [])) (fun v H2=>v=.non∧Q (.ref x) H2) E
theorem zT {X:Cx}{E:XK}{j k:Nat}{c:Str}{F:List D->DM D}{p pos:Pos}{e:Expr}{es:List Expr}{fs:aa->DM (List D)} (T:ClsD X.prog X.w X.K X.mg X.base j c F) (hr:Room k X.A) (hx:Passes (eZ X.prog X.w) X E) (ha:DA X E (e::es) fs) (hjk:j + 1≤k:=by decide) (hg:Gl X c:=by rfl) (hdb:(c == ("__debug__":Str))=false:=by decide)
  (he:notStar e=true:=by rfl) (hpl:(backTo pos (starEach es X.env)).any (·.1)=false:=by rfl) :
  DE X E (.Call (.Name c p) (e::es) [] pos) (fun δ=>fs δ >>= F):=by
 obtain ⟨C,ps,sp,G,mk,kc,m,h⟩:=T.ex
 refine ⟨PE.mono (yU G mk kc m hr hx ha.h hjk hg hdb he hpl) fun σ H Q z=>?_⟩
 obtain ⟨ρ,δ,M,ev,j,g1⟩:=z
 refine ⟨ρ,δ,M,ev,j,g1.bind fun ρ1 H1 M1 xs dxs e1 j1 c1 g2=>fun x dx h1 h2 h3=>?_⟩
 rw [List.append_nil]
 exact h ρ1 M1 H1 xs dxs Q E c1 j1 g2 x dx h1 h2 h3
section
variable {mg:Str->Option Value}{ρ:Rh}{H:Hp}{k:Nat}{M':Mo}
mutual
theorem Cv.fz (hk:ρ.st.length=k):∀ {v:V}{d:D},Cv mg ρ H v d->Fz M' k d d
 | _,_,.non=>.non
 | _,_,.bl b=>.bl b
 | _,_,.int i=>.int i
 | _,_,.str x=>.str x
 | _,_,.tup n h c=>.tup (Cvs.fz hk c)
 | _,_,.lst n h c=>.lst (Cvs.fz hk c)
 | _,_,.dic n h l c=>.dic (Cvs.fz hk c)
 | _,_,.obj n m h l c=>.obj (Cvs.fz hk c)
 | _,_,.scr n h=>.scr _
 | _,_,.ref h=>.old (by rw [←hk];exact (List.getElem?_eq_some_iff.mp h).1)
 | _,_,.cls h=>.cls _
 | _,_,.ty t=>.ty t
 | _,_,.exn a=>.exn a
theorem Cvs.fz (hk:ρ.st.length=k):∀ {vs:List V}{ds:List D},Cvs mg ρ H vs ds->Fzs M' k ds ds
 | _,_,.nil=>.nil
 | _,_,.cons h t=>.cons (Cv.fz hk h) (Cvs.fz hk t)
end
theorem Cvs.fz_mem {k:Nat} (hk:ρ.st.length=k):∀ {vs:List V}{ds:List D},Cvs mg ρ H vs ds->∀ d∈ds,Fz M' k d d
 | _,_,.nil,d,h=>by cases h
 | _,_,.cons a t,d,h=>by
   rcases List.mem_cons.mp h with rfl | h
   ·exact a.fz hk
   ·exact Cvs.fz_mem hk t d h
theorem wN {M':Mo}{k:Nat}:∀ {ds:List D},(∀ d∈ds,Fz M' k d d)->Fzs M' k ds ds
 | [],_=>.nil
 | d::ds,h=>.cons (h d (by simp)) (wN fun e he=>h e (by simp [he]))
theorem J.fz {M:Mo}{o:DO} (j:J mg ρ M H):Fb (M++[o]) M.length M:=by
 refine ⟨rfl,fun n u h=>?_⟩
 have hn:=(List.getElem?_eq_some_iff.mp h).1
 refine ⟨u,by rw [List.getElem?_append_left hn];exact h,?_⟩
 have hl:n<ρ.st.length:=by rw [j.len];exact hn
 have c:=j.obj n ρ.st[n] u (List.getElem?_eq_getElem hl) h
 cases u with
 | lst l=>obtain ⟨xs,_,c⟩:=c;exact c.fz j.len
 | dic ks l=>obtain ⟨xs,_,_,c⟩:=c;exact ⟨rfl,c.fz j.len⟩
 | ins cc ns l=>obtain ⟨C,dx,xs,_,_,_,c⟩:=c;exact ⟨rfl,rfl,c.fz j.len⟩
end
def Bo (c:Str) (Fi:List D->DM D) (ds:List D) (M:Mo) (r':R D×Mo):Prop:=
 (∃ ns vs,Fi (.ref M.length::ds) (M++[.ins c [] []])=some (.ok .non,M++[.ins c ns vs])∧(∀ d∈vs,d∈ds∨∃ i,d=.int i)∧r'=(.ok (.obj c ns vs),M)) ∨
 (∃ e o,Fi (.ref M.length::ds) (M++[.ins c [] []])=some (.exc e,M++[o])∧r'=(.exc e,M))
theorem Fx {P:Program}{w:World}{K:PySem.W.Frag}{mg:Str->Option Value}{base:Heap}{k:Nat}{c qual:Str}{st:Stmt}{ps:List Str}{Fi F':List D->DM D} (T:MethD P w K mg base k c "__init__" qual st ps Fi)
  (hb:∀ (kV doc pm:Value) (an:Option Addr) (cdv ct:Value) (us:List Value),us.length=ps.length->bindArgs (PySem.W.fnOf "__init__" qual (defArgs st) (defBody st) (defScope st) .none kV doc pm an cdv ct) ⟨us,[]⟩=pure (ps.zip us))
  (hm:∀ C,mg c=some (.ref C)->PySem.W.makesIn K C=true∧PySem.W.keepIn K (.ref C)=true) (hf:∀ ds M r',F' ds M=some r'->Bo c Fi ds M r'):ClsD P w K mg base k c F':=by
 obtain ⟨C,f,fd,mc,G,B,a,n,cl⟩:=T.ex
 refine ⟨C,ps,_,⟨f,fd,G,B.binds hb,B.kp,a,n⟩,(hm C mc).1,(hm C mc).2,mc,fun ρ M H vs ds Q E cv j g x dx hx hdx hne=>?_⟩
 obtain ⟨r',e,p⟩:=g
 have hx':upd H dx (.own x) x=none:=by rw [upd_ne (fun z=>hne z.symm)];exact hx
 have x1:Ext ρ H ρ (upd H dx (.own x)):=.lay hdx
 have j1:=j.lay (.own x) hdx
 have x2:Ext ρ (upd H dx (.own x)) (ρ.put x) (upd (upd H dx (.own x)) x (.ins C dx [])):=.put hx'
 have j2:J mg (ρ.put x) (M++[.ins c [] []]) (upd (upd H dx (.own x)) x (.ins C dx [])):=j1.put hx' ⟨C,dx,[],mc,upd_same,rfl,.nil⟩
 have hput:(ρ.put x).st[M.length]?=some x:=by
  show (ρ.st++[x])[M.length]?=some x
  rw [←j.len,List.getElem?_append_right (Nat.le_refl _)];simp
 refine ⟨ρ.put x,M++[.ins c [] []],.ref M.length::ds,.cons (.ref hput) (cv.mono (x1.trans x2)),j2,?_⟩
 have sb:∀ {ρ2 H2},Ext (ρ.put x) (upd (upd H dx (.own x)) x (.ins C dx [])) ρ2 H2->Sub ρ ρ2 M.length:=fun {ρ2 H2} y=>by
  obtain ⟨τ,ht⟩:=y.pre
  exact ⟨⟨[x]++τ,by rw [ht];show (ρ.st++[x])++τ=_;simp⟩,y.vo,j.len⟩
 have ex:∀ {ρ2 H2},Ext (ρ.put x) (upd (upd H dx (.own x)) x (.ins C dx [])) ρ2 H2->Ext ρ H ρ H2:=fun {ρ2 H2} y=>⟨⟨[],by simp⟩,rfl,fun a h n=>absurd h n,fun b o hb hn=>y.keep b o (by
  have nx:b≠x:=ne_of_none hb hx
  have ndx:b≠dx:=ne_of_none hb hdx
  rw [upd_ne nx,upd_ne ndx];exact hb) (fun z=>by
  rcases List.mem_append.mp z with z | z
  ·exact hn z
  ·exact ne_of_none hb hx (List.mem_singleton.mp z))⟩
 rcases hf ds M r' e with ⟨ns,vs',e2,hv,rfl⟩ | ⟨er,o,e2,rfl⟩
 ·refine ⟨_,e2,fun ρ2 H2 b y j3 cb=>?_⟩
  cases cb
  refine ⟨rfl,p ρ H2 (.ref x) (ex y) (j3.freeze (sb y) j.len j.fz) ?_⟩
  have h3:ρ2.st[M.length]?=some x:=y.at hput
  obtain ⟨C',dx',xs,m',hx3,l,cs⟩:=j3.obj M.length x (.ins c ns vs') h3 (by simp)
  refine .obj (j.fresh hx) m' hx3 l (Cvs.freeze (sb y) j3 (wN fun d hd=>?_) cs)
  rcases hv d hd with h | ⟨i,rfl⟩
  ·exact cv.fz_mem j.len d h
  ·exact .int i
 ·refine ⟨_,e2,fun ρ2 H2 C2 y j3 m2=>?_⟩
  exact p ρ H2 C2 (ex y) (j3.freeze (sb y) j.len j.fz) m2
end L3
namespace L3
open PySem PySem.Spec L2
theorem qN:∀ {l:List D}{ns:List Int},intsOf l=some ns->l=ns.map D.int
 | [],ns,e=>by cases e;rfl
 | d::l,ns,e=>by
   cases d with
   | int i=>
     simp only [intsOf,Option.map_eq_some_iff] at e
     obtain ⟨ms,h,rfl⟩:=e
     rw [qN h];rfl
   | _=>simp [intsOf] at e
theorem sS {mg:Str->Option Value}{ρ:Rh}{H:Hp}:∀ {ns:List Int}{xs:List V},Cvs mg ρ H xs (ns.map D.int)->xs=ns.map V.int
 | [],_,.nil=>rfl
 | n::ns,_,.cons a t=>by
   cases a
   rw [sS t];rfl
theorem jr {α:Type}{l:List α} (h:l.length=1):∃ a,l=[a]:=match l,h with | [a],_=>⟨a,rfl⟩
theorem km {α:Type}{l:List α} (h:l.length=2):∃ a b,l=[a,b]:=match l,h with | [a,b],_=>⟨a,b,rfl⟩
theorem vI {α:Type}{l:List α} (h:l.length=3):∃ a b c,l=[a,b,c]:=match l,h with | [a,b,c],_=>⟨a,b,c,rfl⟩
theorem FQ {α:Type}{l:List α} (h:l.length=4):∃ a b c d,l=[a,b,c,d]:=match l,h with | [a,b,c,d],_=>⟨a,b,c,d,rfl⟩
end L3
namespace L2
open PySem PySem.Spec PyProof.Rows
end L2
namespace L3
open PySem PySem.Spec L2
end L3
namespace L2
open PySem PySem.Spec PyProof.Rows
end L2
namespace L3
open PySem PySem.Spec L2
def Ea (i j k:Nat) (fa:aa->DM (List D)):aa->DM Fl:=fun δ=>fa δ >>= fun l=>match l with
 | [v,w,z]=>pure (.nx (((δ.set i (some v)).set j (some w)).set k (some z)))
 | _=>stuck
@[simp] theorem G8 (i j k:Nat) (fa:aa->DM (List D)) (δ:aa):Ea i j k fa δ=fa δ >>= fun l=>match l with
 | [v,w,z]=>Pure.pure (.nx (((δ.set i (some v)).set j (some w)).set k (some z)))
 | _=>stuck:=id rfl
end L3
namespace N10
theorem nA (c:Nat):∀ (f:List Nat),(f.map (c * ·)).sum=c * f.sum
 | []=>rfl
 | a::f=>by simp only [List.map_cons,List.sum_cons,nA c f,Nat.mul_add]
def pl (a b:Nat):Nat×Nat:=(a / Nat.gcd a b,b / Nat.gcd a b)
def FN (l:List Nat):Nat:=l.foldl Nat.gcd 0
def lst (l:List Nat):List Nat:=l.map (·/ FN l)
def S:Nat->(Nat->Nat)->Nat
 | 0,_=>0
 | n + 1,f=>S n f + f n
def up (f:Nat->Nat) (x v:Nat):Nat->Nat:=fun i=>if i=x then v else f i
theorem cC (f:Nat->Nat) (x v:Nat):up f x v x=v:=by simp [up]
theorem dJ {f:Nat->Nat}{x v i:Nat} (h:i≠x):up f x v i=f i:=by simp [up,h]
theorem cW {f g:Nat->Nat}:∀ {n:Nat},(∀ i,i<n->f i=g i)->S n f=S n g
 | 0,_=>rfl
 | n + 1,h=>by
   show S n f + f n=S n g + g n
   rw [cW fun i hi=>h i (by omega),h n (by omega)]
theorem jU {f:Nat->Nat}{x v:Nat}:∀ {n:Nat},x<n->S n (up f x v) + f x=S n f + v
 | n + 1,h=>by
   show S n (up f x v) + up f x v n + f x=S n f + f n + v
   by_cases e:x=n
   ·subst e
    rw [cC,cW (g:=f) fun i hi=>dJ (by omega)];omega
   ·have:=jU (f:=f) (v:=v) (n:=n) (x:=x) (by omega)
    rw [dJ (Ne.symm e)];omega
theorem Bm {f g:Nat->Nat}:∀ {n:Nat},(∀ i,i<n->f i≤g i)->S n f≤S n g
 | 0,_=>Nat.le_refl _
 | n + 1,h=>Nat.add_le_add (Bm fun i hi=>h i (by omega)) (h n (by omega))
theorem jT {f:Nat->Nat}{x:Nat}:∀ {n:Nat},x<n->f x≤S n f
 | n + 1,h=>by
   show f x≤S n f + f n
   by_cases e:x=n
   ·subst e;omega
   ·have:=jT (f:=f) (n:=n) (x:=x) (by omega);omega
theorem gm {f:Nat->Nat}:∀ {n:Nat},(∀ i,i<n->f i=0)->S n f=0
 | 0,_=>rfl
 | n + 1,h=>by
   show S n f + f n=0
   rw [gm fun i hi=>h i (by omega),h n (by omega)]
theorem q9 (f g:Nat->Nat):∀ n:Nat,S n (fun i=>f i + g i)=S n f + S n g
 | 0=>rfl
 | n + 1=>by
   show S n _ + (f n + g n)=(S n f + f n) + (S n g + g n)
   rw [q9 f g n];omega
theorem ww (A:Nat->Nat->Nat) (m:Nat):∀ n:Nat,S n (fun x=>S m (A x))=S m (fun y=>S n (fun x=>A x y))
 | 0=>(gm fun i _=>rfl).symm
 | n + 1=>by
   show S n (fun x=>S m (A x)) + S m (A n)=S m (fun y=>S n (fun x=>A x y) + A n y)
   rw [ww A m n,q9]
structure G where
 A:Nat->Nat->Nat
 L:Nat->Nat
 W:Nat->Nat
def cB (A:Nat->Nat->Nat) (x y v:Nat):Nat->Nat->Nat:=fun i=>if i=x then up (A x) y v else A i
def G.step (g:G) (x y:Nat):G:=⟨cB g.A x y (g.A x y + min (g.L x) (g.W y)),up g.L x (g.L x - min (g.L x) (g.W y)),up g.W y (g.W y - min (g.L x) (g.W y))⟩
structure G.Ok (g:G) (n:Nat) (f s:Nat->Nat):Prop where
 row:∀ x,x<n->S n (g.A x) + g.L x=f x
 col:∀ y,y<n->S n (fun x=>g.A x y) + g.W y=s y
theorem G.Ok.step {g:G}{n:Nat}{f s:Nat->Nat} (h:g.Ok n f s) {x y:Nat} (hx:x<n) (hy:y<n):(g.step x y).Ok n f s where
 row:=fun i hi=>by
  have r:=h.row i hi
  show S n (cB g.A x y _ i) + up g.L x _ i=f i
  by_cases e:i=x
  ·subst e
   have:=jU (f:=g.A i) (v:=g.A i y + min (g.L i) (g.W y)) hy
   rw [cC]
   simp only [cB,if_true]
   omega
  ·rw [dJ e]
   simp only [cB,if_neg e]
   exact r
 col:=fun j hj=>by
  have r:=h.col j hj
  show S n (fun i=>cB g.A x y _ i j) + up g.W y _ j=s j
  by_cases e:j=y
  ·subst e
   have q:S n (fun i=>cB g.A x j (g.A x j + min (g.L x) (g.W j)) i j)=S n (up (fun i=>g.A i j) x (g.A x j + min (g.L x) (g.W j))):=cW fun i _=>by
    by_cases k:i=x
    ·subst k;simp [cB,cC]
    ·rw [dJ k];simp [cB,k]
   have:=jU (f:=fun i=>g.A i j) (v:=g.A x j + min (g.L x) (g.W j)) hx
   rw [q,cC]
   omega
  ·have q:S n (fun i=>cB g.A x y (g.A x y + min (g.L x) (g.W y)) i j)=S n (fun i=>g.A i j):=cW fun i _=>by
    by_cases k:i=x
    ·subst k;simp [cB,dJ e]
    ·simp [cB,k]
   rw [q,dJ e];exact r
theorem G.step_le (g:G) (x y:Nat):(∀ i,(g.step x y).L i≤g.L i)∧(∀ j,(g.step x y).W j≤g.W j)∧((g.step x y).L x=0∨(g.step x y).W y=0)∧∀ i j,g.A i j≤(g.step x y).A i j:=by
 refine ⟨fun i=>?_,fun j=>?_,?_,fun i j=>?_⟩
 ·show up g.L x _ i≤_
  by_cases e:i=x
  ·subst e;rw [cC];omega
  ·rw [dJ e];exact Nat.le_refl _
 ·show up g.W y _ j≤_
  by_cases e:j=y
  ·subst e;rw [cC];omega
  ·rw [dJ e];exact Nat.le_refl _
 ·show up g.L x _ x=0∨up g.W y _ y=0
  rw [cC,cC];omega
 ·show _≤cB g.A x y _ i j
  unfold cB
  split
  ·rename_i e
   subst e
   by_cases k:j=y
   ·subst k;rw [cC];omega
   ·rw [dJ k];exact Nat.le_refl _
  ·exact Nat.le_refl _
def G.run (g:G) (sp:List (Nat×Nat)):G:=sp.foldl (fun g p=>g.step p.1 p.2) g
theorem G.run_ok {n:Nat}{f s:Nat->Nat}:∀ {sp:List (Nat×Nat)}{g:G},g.Ok n f s->(∀ p∈sp,p.1<n∧p.2<n)->(g.run sp).Ok n f s
 | [],g,h,_=>h
 | p::sp,g,h,hp=>G.run_ok (sp:=sp) (h.step (hp p (by simp)).1 (hp p (by simp)).2) fun q hq=>hp q (by simp [hq])
theorem G.run_le:∀ (sp:List (Nat×Nat)) (g:G),(∀ i,(g.run sp).L i≤g.L i)∧(∀ j,(g.run sp).W j≤g.W j)∧(∀ p∈sp,(g.run sp).L p.1=0∨(g.run sp).W p.2=0)∧∀ i j,g.A i j≤(g.run sp).A i j
 | [],g=>⟨fun _=>Nat.le_refl _,fun _=>Nat.le_refl _,by simp,fun _ _=>Nat.le_refl _⟩
 | p::sp,g=>by
   obtain ⟨a1,a2,a3,a4⟩:=G.run_le sp (g.step p.1 p.2)
   obtain ⟨b1,b2,b3,b4⟩:=g.step_le p.1 p.2
   refine ⟨fun i=>Nat.le_trans (a1 i) (b1 i),fun j=>Nat.le_trans (a2 j) (b2 j),fun q hq=>?_,fun i j=>Nat.le_trans (b4 i j) (a4 i j)⟩
   rcases List.mem_cons.mp hq with rfl | hq
   ·rcases b3 with z | z
    ·exact .inl (Nat.le_zero.mp (z ▸ a1 _))
    ·exact .inr (Nat.le_zero.mp (z ▸ a2 _))
   ·exact a3 q hq
theorem G.done {n:Nat}{f s:Nat->Nat}{g:G} (h:g.Ok n f s) (e:S n f=S n s) (hp:∀ x y,x<n->y<n->g.L x=0∨g.W y=0):(∀ x,x<n->g.L x=0)∧∀ y,y<n->g.W y=0:=by
 have r:S n (fun x=>S n (g.A x)) + S n g.L=S n f:=by rw [←q9];exact cW fun i hi=>h.row i hi
 have c:S n (fun y=>S n (fun x=>g.A x y)) + S n g.W=S n s:=by rw [←q9];exact cW fun i hi=>h.col i hi
 rw [ww] at r
 have eq:S n g.L=S n g.W:=by omega
 refine ⟨fun x hx=>?_,fun y hy=>?_⟩
 ·refine Classical.byContradiction fun z=>?_
  have w0:S n g.W=0:=gm fun y hy=>(hp x y hx hy).resolve_left z
  have:=jT (f:=g.L) hx
  omega
 ·refine Classical.byContradiction fun z=>?_
  have l0:S n g.L=0:=gm fun x hx=>(hp x y hx hy).resolve_right z
  have:=jT (f:=g.W) hy
  omega
end N10
namespace L3
open PySem PySem.Spec L2
def nM (R:List (List Nat)):D:=.tup (R.map nT)
def ga (l:List Nat) (i:Nat):Nat:=l.getD i 0
def gr (R:List (List Nat)) (i:Nat):List Nat:=R.getD i []
theorem pF {l:List Nat}{i:Nat} (h:i<l.length):ga l i∈l:=by
 unfold ga
 rw [List.getD_eq_getElem?_getD,List.getElem?_eq_getElem h]
 exact List.getElem_mem _
theorem gr_mem {R:List (List Nat)}{i:Nat} (h:i<R.length):gr R i∈R:=by
 unfold gr
 rw [List.getD_eq_getElem?_getD,List.getElem?_eq_getElem h]
 exact List.getElem_mem _
theorem vC {l:List Nat}{i:Nat} (h:i<l.length):ga l i=l[i]:=by
 unfold ga
 rw [List.getD_eq_getElem?_getD,List.getElem?_eq_getElem h];rfl
theorem DX {R:List (List Nat)}{i:Nat} (h:i<R.length):gr R i=R[i]:=by
 unfold gr
 rw [List.getD_eq_getElem?_getD,List.getElem?_eq_getElem h];rfl
theorem CK {a b:Nat} (h:nD a=nD b):a=b:=by
 have:=D.int.inj h
 omega
theorem CP {a b:List Nat} (h:nT a=nT b):a=b:=(List.map_inj_right fun _ _=>CK).mp (D.tup.inj h)
theorem CN {a b:List (List Nat)} (h:nM a=nM b):a=b:=(List.map_inj_right fun _ _=>CP).mp (D.tup.inj h)
theorem w5 {α:Type}{ft:aa->DM Bool}{fe:aa->DM D}{rest:aa} (enc:α->D) (p:α->Bool) (e:α->D):∀ (as:List α) (x:Option D) (l:List D),l.length + as.length≤1000000->(∀ a∈as,ft (some (enc a)::rest)=Pure.pure (p a))->(∀ a∈as,p a=true->fe (some (enc a)::rest)=Pure.pure (e a))->
  bu (gN 0) ft (aV fe) (as.map enc) (x::rest) l=Pure.pure (kj x (as.map enc)::rest,l++(as.filter p).map e)
 | [],x,l,_,_,_=>by simp [bu,kj]
 | d::ds,x,l,hl,h1,h2=>by
   have b:=h1 d (List.mem_cons_self ..)
   have hl':l.length + (ds.length + 1)≤1000000:=by simpa using hl
   have lt:l.length<sizeLine:=by show l.length<2 ^ 24;omega
   have ih:=fun l' hl'=>w5 (rest:=rest) enc p e ds (some (enc d)) l' hl' (fun x hx=>h1 x (List.mem_cons_of_mem _ hx)) (fun x hx=>h2 x (List.mem_cons_of_mem _ hx))
   by_cases hp:p d=true
   ·have c:=h2 d (List.mem_cons_self ..) hp
    have q:=ih (l++[e d]) (by simp;omega)
    simp [bu,b,hp,aV,c,lt,q,kj]
   ·have q:=ih l (by omega)
    simp [bu,b,hp,q,kj]
theorem bj {α:Type}{ft:aa->DM Bool}{fe:aa->DM D}{x:Option D}{rest:aa}{as:List α} (enc:α->D) (p:α->Bool) (e:α->D) (hl:as.length≤1000000) (h1:∀ a∈as,ft (some (enc a)::rest)=Pure.pure (p a)) (h2:∀ a∈as,p a=true->fe (some (enc a)::rest)=Pure.pure (e a)) :
  eX (bu (gN 0) ft (aV fe) (as.map enc) (x::rest) [])=Pure.pure (kj x (as.map enc)::rest,(as.filter p).map e):=by
 rw [w5 enc p e as x [] (by simpa using hl) h1 h2];simp
theorem cZ {α:Type}{fe:aa->DM D}{x:Option D}{rest:aa}{as:List α} (enc:α->D) (e:α->D) (hl:as.length≤1000000) (h2:∀ a∈as,fe (some (enc a)::rest)=Pure.pure (e a)) :
  eX (bu (gN 0) (fun _=>Pure.pure true) (aV fe) (as.map enc) (x::rest) [])=Pure.pure (kj x (as.map enc)::rest,as.map e):=by
 rw [bj enc (fun _=>true) e hl (fun _ _=>rfl) fun a ha _=>h2 a ha,List.filter_eq_self.mpr (fun _ _=>rfl)]
theorem uh {a b:Nat} (h0:0<b) (h:b<2 ^ 1000):(rd (pD (nD a) (nD b)):DM D)=Pure.pure (nD (a / b)):=by
 unfold nD
 rw [Df (zV (by omega) (by simpa using h)),Int.natCast_ediv]
theorem ur {a b:Nat} (h:b<2 ^ 64):(rd (tZ (nD a) (nD b)):DM D)=Pure.pure (nD (a * b)):=by
 unfold nD
 rw [Ep (Ah (by simpa using h)),Int.natCast_mul]
theorem gB (a b:Nat):(rd (eU (nD a) (nD b)):DM D)=Pure.pure (nD (a + b)):=by
 unfold nD
 rw [Eh,Int.natCast_add]
theorem Ao (a:Nat):(rd (eU (nD a) (.int 1)):DM D)=Pure.pure (nD (a + 1)):=gB a 1
theorem ug (a:Nat):(rd (eU (.int 1) (nD a)):DM D)=Pure.pure (nD (a + 1)):=by
 rw [Nat.add_comm];exact gB 1 a
theorem um (a b:Nat):(rd (gA (nD a) (nD b)):DM D)=Pure.pure (.bl (decide (a=b))):=by
 unfold nD
 rw [Ei]
 have:decide ((a:Int)=(b:Int))=decide (a=b):=by rw [Bool.eq_iff_iff,decide_eq_true_eq,decide_eq_true_eq];omega
 rw [this]
theorem iG (a b:Nat):(rd (lH (nD a) (nD b)):DM D)=Pure.pure (.bl (!decide (a=b))):=by
 unfold nD
 rw [Er]
 have:decide ((a:Int)=(b:Int))=decide (a=b):=by rw [Bool.eq_iff_iff,decide_eq_true_eq,decide_eq_true_eq];omega
 rw [this]
theorem xO (a b:Nat):(rd (wZ (nD a) (nD b)):DM D)=Pure.pure (.bl (decide (a≤b))):=by
 unfold nD
 rw [Gh]
 have:decide ((a:Int)≤(b:Int))=decide (a≤b):=by rw [Bool.eq_iff_iff];simp
 rw [this]
theorem uo (a b:Nat):(rd (qL (nD a) (nD b)):DM D)=Pure.pure (.bl (decide (b<a))):=by
 unfold nD
 rw [Gg]
 have:decide ((b:Int)<(a:Int))=decide (b<a):=by rw [Bool.eq_iff_iff];simp
 rw [this]
theorem xK (a b:Nat):(rd (wO (nD a) (nD b)):DM D)=Pure.pure (.bl (decide (b≤a))):=by
 unfold nD
 rw [Gf]
 have:decide ((b:Int)≤(a:Int))=decide (b≤a):=by rw [Bool.eq_iff_iff];simp
 rw [this]
theorem jL {a b:Nat} (h:0<b):(rd (oK (nD a) (nD b)):DM D)=Pure.pure (nD (a % b)):=Dh h
theorem xP (R:List (List Nat)):(rd (bR [nM R]):DM D)=Pure.pure (nD R.length):=by simp [nM,nD]
theorem El (l:List D):(rd (eE [.tup l,.ty "tuple"]):DM D)=Pure.pure (.bl true):=fL (t := "tuple") (fun _=>rfl) (by decide)
theorem xM (R:List (List Nat)):(rd (eE [nM R,.ty "tuple"]):DM D)=Pure.pure (.bl true):=El _
theorem dN {n:Nat} (h:n<2 ^ 62):mL [nD n]=some (.fix ((List.range n).map nD)):=pW h
theorem xJ (R:List (List Nat)):o5 (nM R)=some (.fix (R.map nT)):=rfl
theorem Dd (l:List D):(rd (nH (.lst l)):DM Itn)=Pure.pure (.fix l):=rfl
theorem rH {l:List Nat}{i:Nat} (h:i<l.length):(rd (dI (nT l) (nD i)):DM D)=Pure.pure (nD (ga l i)):=En (by unfold ga;rw [List.getD_eq_getElem?_getD,List.getElem?_eq_getElem h];rfl)
theorem Em {R:List (List Nat)}{i:Nat} (h:i<R.length):(rd (dI (nM R) (nD i)):DM D)=Pure.pure (nT (gr R i)):=pU (by unfold gr;rw [List.getElem?_map,List.getD_eq_getElem?_getD,List.getElem?_eq_getElem h];rfl)
theorem xN {R:List (List Nat)} (h:0<R.length):(rd (dI (nM R) (.int 0)):DM D)=Pure.pure (nT (gr R 0)):=Em h
end L3
namespace LS
open PySem PySem.Spec PyProof.Rows PyProof
end LS
namespace L2
open PySem PySem.Spec PyProof.Rows
variable {X:Cx}{pos:Pos}
end L2
namespace L3
open PySem PySem.Spec PyProof.Rows L2
variable {X:Cx}{E:XK}{pos:Pos}
def gL (n:Nat) (fs:List D->aa->DM aa):D->aa->DM aa
 | .lst l,δ=>if l.length=n then fs l δ else stuck
 | _,_=>stuck
@[simp] theorem Hr (n:Nat) (fs:List D->aa->DM aa) (l:List D) (δ:aa):gL n fs (.lst l) δ=if l.length=n then fs l δ else stuck:=id rfl
theorem yF {X:Cx}{E:XK}{st:Stmt}:DS X E st (fun _=>stuck):=⟨by
 intro pins s σ H D I h
 obtain ⟨ρ,δ,M,ev,j,g1⟩:=h
 obtain ⟨r,e,_⟩:=g1
 cases e⟩
end L3
namespace L3
open PySem PySem.Spec L2
abbrev Mg:=Str->Option Value
abbrev Fn:=List D->DM D
abbrev Nn (mg:Mg) (x:Str):Prop:=mg x=none
abbrev Gi (mg:Mg) (x:Str) (i:Int) (t:Tok):Prop:=mg x=some (.int i t)
abbrev Rm (k:Nat) (A:Around) (q:Str) (st:Stmt) (s:Shared) (f:Addr) (cdv:Value):Prop:=Room k (A.deeper (PyProof.Rows.envOfC q (defScope st) s.heap.objs.size f cdv))
abbrev Ds (P:Program) (w:World) (K:PySem.W.Frag) (mg:Mg) (base:Heap) (N:List Str) (q:Str) (st:Stmt) (f:Addr) (cdv:Value) (A:Around) (outer:List Env) (s:Shared) (H:Hp) (E:XK) (b:aa->DM Fl):Prop:=
 DSs (fU P w K mg base N q (defScope st) f cdv A outer s H E) E (defBody st) b
theorem bD {N P:List Str}{sc:Scope} (a:sc.kind=.function) (b:sc.isCoroutine=false) (c:sc.isGenerator=false) (p:N.take P.length=P) (d:(decide N.Nodup && (decide (∀ x∈P,sc.names.lookup x=some .local∨sc.names.lookup x=some .cell) && decide (∀ y∈sc.names,y.2≠.free)))=true):FnScope N P sc:=by
 simp only [Bool.and_eq_true,decide_eq_true_eq] at d
 exact ⟨a,b,c,d.1,p,d.2.1,d.2.2⟩
def zK (lo hi:Option Int):D->Mo->Option D
 | .scr ns,_=>some (.lst (cutD (ns.map D.int) lo hi))
 | _,_=>none
theorem uJ {mg:Str->Option Value}{ρ:Rh}{H:Hp}:∀ l:List Int,Cvs mg ρ H (l.map V.int) (l.map D.int)
 | []=>.nil
 | n::l=>.cons (.int _) (uJ l)
section
variable {X:Cx}{E:XK}
theorem Gj:SlR X (fun x lo hi H Q=>∃ ρ M dx d,J X.mg ρ M H∧Cv X.mg ρ H x dx∧zK lo hi dx M=some d∧∀ ρ' H' v,Ext ρ H ρ' H'->J X.mg ρ' M H'->Cv X.mg ρ' H' v d->Q v H'):=by
 intro pins s σ H x v vl vu lo hi sl Q I rx hs pl pu h
 obtain ⟨ρ,M,dx,d,j,c,e,q⟩:=h
 unfold zK at e
 split at e
 ·cases e
  cases c with | scr n rd=>
  refine sl_list (X:=X) pins s σ H _ v vl vu lo hi sl Q I rx hs pl pu ⟨_,_,rfl,.inl rd,fun p hp=>?_⟩
  exact q ρ _ _ (.lay hp) (j.lay _ hp) (.lst (j.fresh hp) upd_same (((uJ _).cut lo hi).mono (.lay hp)))
 ·cases e
theorem wI {a:Expr}{fa:aa->DM D}{lo hi:Option Expr}{fl fh:aa->DM (Option Int)}{p2 pos:Pos} (ha:DE X E a fa) (hl:DP X E lo fl) (hh:DP X E hi fh) :
  DE X E (.Subscript a (.Slice lo hi none p2) pos) (fun δ=>fa δ >>= fun x=>fl δ >>= fun l=>fh δ >>= fun h=>rd (zK l h x)):=⟨PE.mono (pe_slice Gj ha.h hl.h hh.h) fun σ H Q h=>by
 obtain ⟨ρ,δ,M,ev,j,g1⟩:=h
 refine ⟨ρ,δ,M,ev,j,g1.bind fun ρ1 H1 M1 x dx e1 j1 c1 g2=>⟨ρ1,δ,M1,ev.mono e1,j1,g2.bind fun ρ2 H2 M2 l dl e2 j2 c2 g3=>⟨ρ2,δ,M2,(ev.mono e1).mono e2,j2,g3.bind fun ρ3 H3 M3 h dh e3 j3 c3 g4=>?_⟩⟩⟩
 have c2:l=dl:=c2
 have c3:h=dh:=c3
 subst c2 c3
 obtain ⟨d,e,q⟩:=g4.rd
 exact ⟨ρ3,M3,dx,d,j3,(c1.mono e2).mono e3,e,q⟩⟩
end
theorem Es (ns:List Int) (lo hi:Option Int):(rd (zK lo hi (.scr ns)):DM D)=Pure.pure (.lst (cutD (ns.map D.int) lo hi)):=rfl
theorem u1 {n:Nat} (h:n + 64<cLine):n + 1<cLine:=by omega
end L3
namespace L3
open PySem L2
theorem qY {c:aa->DM Bool}{fb:aa->DM Fl}{lQ:aa->Mo->Prop} (I:Nat->aa->Mo->Prop)
  (step:∀ m δ M,I m δ M->∃ b,c δ M=some (.ok b,M)∧(b=true->Rn (fb δ) M fun r M'=>∃ δ' m',r=.nx δ'∧m'<m∧I m' δ' M')∧(b=false->lQ δ M)) :
  ∀ (N m:Nat) (δ:aa) (M:Mo),m<N->I m δ M->Rn (iQ c fb N δ) M fun r M'=>∃ δ',r=.nx δ'∧lQ δ' M'
 | 0,m,δ,M,h,_=>by omega
 | N + 1,m,δ,M,h,i=>by
   obtain ⟨b,e,h1,h2⟩:=step m δ M i
   unfold iQ
   refine Rn.bind (Q1:=fun b' M'=>b'=b∧M'=M) ⟨b,M,e,rfl,rfl⟩ fun b' M' ⟨eb,eM⟩=>?_
   subst eb eM
   cases b' with
   | false=>exact Rn.pure ⟨δ,rfl,h2 rfl⟩
   | true=>
     refine Rn.bind (h1 rfl) fun r M1 ⟨δ',m',er,hm,i'⟩=>?_
     subst er
     exact qY I step N m' δ' M1 (by omega) i'
end L3
namespace L3
open PySem PySem.Spec L2 LB
def tupI (t:List Int):D:=.tup (t.map D.int)
def jP:List D->Option (List (List Int))
 | []=>some []
 | .tup l::r=>(intsOf l).bind fun t=>if t=[] then none else (jP r).map (t::·)
 | _::_=>none
theorem qW:∀ {l:List D}{ts:List (List Int)},jP l=some ts->l=ts.map tupI∧∀ t∈ts,t≠[]
 | [],ts,e=>by cases e;exact ⟨rfl,fun t h=>by cases h⟩
 | d::l,ts,e=>by
   cases d with
   | tup l0=>
     obtain ⟨t,h1,e⟩:=Option.bind_eq_some_iff.mp e
     split at e
     ·cases e
     ·rename_i hne
      obtain ⟨ms,h,rfl⟩:=Option.map_eq_some_iff.mp e
      obtain ⟨h2,h3⟩:=qW h
      refine ⟨by rw [h2,qN h1];rfl,fun x hx=>?_⟩
      rcases List.mem_cons.mp hx with rfl | hx
      ·exact hne
      ·exact h3 x hx
   | _=>simp [jP] at e
theorem p7:∀ {ts:List (List Int)},(∀ t∈ts,t≠[])->jP (ts.map tupI)=some ts
 | [],_=>rfl
 | t::ts,h=>by
   have ih:=p7 (ts:=ts) fun x hx=>h x (.tail _ hx)
   have h1:=h t (List.mem_cons_self)
   show (intsOf (t.map D.int)).bind _=_
   rw [pH]
   show (if t=[] then none else _)=_
   rw [if_neg h1,ih];rfl
theorem sU {mg:Str->Option Value}{ρ:Rh}{H:Hp}:∀ {ts:List (List Int)}{xs:List V},(∀ t∈ts,t≠[])->Cvs mg ρ H xs (ts.map tupI)->Paired (yj H) xs ts
 | [],_,_,.nil=>.nil
 | t::ts,_,h,.cons a c=>by
   refine .cons ⟨h t (List.mem_cons_self),?_⟩ (sU (fun x hx=>h x (.tail _ hx)) c)
   cases a with
   | tup n ha k=>exact ⟨_,rfl,by rw [ha,sS k]⟩
theorem sO {mg:Str->Option Value}{ρ:Rh}{H:Hp}:∀ {xs:List V}{ds:List D} (i:Nat),Cvs mg ρ H xs ds->i<xs.length->Cv mg ρ H (xs.getD i V.non) (ds.getD i D.non)
 | _,_,_,.nil,h=>by cases h
 | _,_,0,.cons a _,_=>a
 | _,_,i + 1,.cons _ t,h=>sO i t (by simpa using h)
theorem Cvs.pick {mg:Str->Option Value}{ρ:Rh}{H:Hp}{xs:List V}{ds:List D} (c:Cvs mg ρ H xs ds):∀ (is:List Nat),(∀ i∈is,i<xs.length)->Cvs mg ρ H (is.map fun i=>xs.getD i V.non) (is.map fun i=>ds.getD i D.non)
 | [],_=>.nil
 | i::is,h=>.cons (sO i c (h i (List.mem_cons_self))) (Cvs.pick c is fun j hj=>h j (.tail _ hj))
def rM:List D->Mo->Option D
 | [d],M=>(bc d M).bind fun l=>(jP l).bind fun ts=>if ts.length≤60 then some (.lst ((qx ts).map tupI)) else none
 | _,_=>none
section
variable {X:Cx}{E:XK}
theorem vz:CallD X E (.builtin "sorted") (fun l=>rd (rM l)):=CallD.of sI fun vs H Q ρ M ds d j c e q=>by
 unfold rM at e
 split at e
 ·obtain ⟨l,h1,e⟩:=Option.bind_eq_some_iff.mp e
  obtain ⟨ts,h2,e⟩:=Option.bind_eq_some_iff.mp e
  split at e
  ·rename_i hn
   cases e
   obtain ⟨v,rfl,k⟩:=c.one
   obtain ⟨p,xs,rfl,hx,c'⟩:=dM j k h1
   obtain ⟨rfl,ne⟩:=qW h2
   have pr:=sU ne c'
   have le:=Paired.length pr
   refine ⟨p,xs,ts,rfl,hx,pr,by omega,fun l is hl hi pm es=>q ρ _ _ (.lay hl) (j.lay _ hl) (.lst (j.fresh hl) upd_same ?_)⟩
   have cp:=Cvs.pick c' is hi
   have e3:(is.map fun i=>(ts.map tupI).getD i D.non)=(qx ts).map tupI:=by
    rw [←es,List.map_map]
    refine List.map_congr_left fun i m=>?_
    have h:=hi i m
    have h':i<ts.length:=by omega
    simp [h']
   rw [e3] at cp
   exact cp.mono (.lay hl)
  ·cases e
 ·cases e
end
end L3
namespace L3
open PySem L2
theorem qP {α:Type}{fe:aa->DM D}{rest:aa}{n:Nat}{M:Mo}{L:List α} (enc e:α->D) (hM:M[n]?=some (.lst (L.map enc))) (hL:L.length≤1000000) (h:∀ a∈L,fe (some (enc a)::rest) M=some (.ok (e a),M)) :
  ∀ (k i:Nat) (x:Option D) (l:List D),i + k=L.length + 1->1≤k->l=(L.take i).map e->∃ z,kJ (gN 0) (fun _=>Pure.pure true) (aV fe) n k i (x::rest) l M=some (.ok (z::rest,L.map e),M)
 | 0,i,x,l,_,h1,_=>by omega
 | k + 1,i,x,l,hk,_,hl=>by
   have rn:rd (Itn.next (.dyn n) i) M=some (.ok ((L.map enc)[i]?),M):=by
    have:Itn.next (.dyn n) i M=some ((L.map enc)[i]?):=by
     simp only [Itn.next,hM]
    unfold rd
    rw [this];rfl
   by_cases c:i<L.length
   ·have e1:(L.map enc)[i]?=some (enc L[i]):=by rw [List.getElem?_map,List.getElem?_eq_getElem c];rfl
    rw [e1] at rn
    have ih:=qP enc e hM hL h k (i + 1) (some (enc L[i])) (l++[e L[i]]) (by omega) (by omega) (by rw [hl,List.take_succ_eq_append_getElem c,List.map_append];rfl)
    obtain ⟨z,ih⟩:=ih
    refine ⟨z,?_⟩
    have hf:=h L[i] (List.getElem_mem c)
    have lt:l.length<sizeLine:=by show _<2 ^ 24;rw [hl];simp;omega
    show DM.bind (rd (Itn.next (.dyn n) i)) _ M=_
    unfold DM.bind
    rw [rn]
    show ((gN 0 (enc L[i]) (x::rest)) >>= fun δ1=>(Pure.pure true:DM Bool) >>= fun b=>(if b then aV fe δ1 l else Pure.pure (δ1,l)) >>= fun p=>kJ _ _ _ n k (i + 1) p.1 p.2) M=_
    rw [gb,au,au]
    show ((aV fe (some (enc L[i])::rest) l) >>= fun p=>kJ _ _ _ n k (i + 1) p.1 p.2) M=_
    unfold aV
    rw [cY]
    show DM.bind (fe _) _ M=_
    unfold DM.bind
    rw [hf]
    dsimp only
    rw [if_pos lt]
    exact ih
   ·have e1:(L.map enc)[i]?=none:=List.getElem?_eq_none (by rw [List.length_map];omega)
    rw [e1] at rn
    refine ⟨x,?_⟩
    show DM.bind (rd (Itn.next (.dyn n) i)) _ M=_
    unfold DM.bind
    rw [rn]
    have:L.take i=L:=List.take_of_length_le (by omega)
    rw [hl,this];rfl
theorem zY {α:Type}{fe:aa->DM D}{rest:aa}{n:Nat}{M:Mo}{L:List α}{x:Option D} (enc e:α->D) (hM:M[n]?=some (.lst (L.map enc))) (hL:L.length≤1000000) (h:∀ a∈L,fe (some (enc a)::rest) M=some (.ok (e a),M)) {β:Type}{k:aa×List D->DM β}{Q:β->Mo->Prop} (k':List D->DM β) (hk:∀ q,k q=k' q.2) (q:Rn (k' (L.map e)) M Q) :
  Rn (rd (nH (.ref n)) >>= fun it=>eX (cI (gN 0) (fun _=>Pure.pure true) (aV fe) it (x::rest) []) >>= k) M Q:=by
 refine Rn.bindRd (.dyn n) (by simp only [nH,hM]) ?_
 obtain ⟨z,e2⟩:=qP (rest:=rest) enc e hM hL h (L.length + 1) 0 x [] (by omega) (by omega) rfl
 have e1:cI (gN 0) (fun _=>Pure.pure true) (aV fe) (.dyn n) (x::rest) [] M=some (.ok (z::rest,L.map e),M):=by
  show DM.bind (rd (fun M=>bc (.ref n) M)) _ M=_
  unfold DM.bind rd
  simp only [bc,hM,Option.map_some,List.length_map]
  exact e2
 refine Rn.bind (dC ⟨_,_,e1,rfl,rfl⟩:Rn (eX _) M fun p M'=>p=(z::rest,L.map e)∧M'=M) fun p M' ⟨e1,e2⟩=>?_
 subst e1 e2
 rw [hk]
 exact q
end L3
namespace N10
theorem rm (f g:Nat->Nat):∀ n:Nat,S n f - S n g≤S n (fun i=>f i - g i)
 | 0=>Nat.le_refl _
 | n + 1=>by
   show S n f + f n - (S n g + g n)≤S n (fun i=>f i - g i) + (f n - g n)
   have:=rm f g n
   omega
end N10
namespace K
open PySem L2 L3
def top (i:Nat):Stmt:=PySem.Challenge.pw_fadewalk_k57_rules_that_part_least.main.body.getD i (.Pass ⟨0,0,0,0⟩)
abbrev dq:Stmt:=top 5
theorem n8:FnScope ["thing"] ["thing"] (defScope dq):=bD rfl rfl rfl rfl (by decide +kernel)
@[simp] noncomputable def pN :{b // ∀ {P w K mg base f cdv A outer s H E} (ya:Nn mg "bool") (yb:Nn mg "int") (yc:Nn mg "isinstance") (hr:Rm 0 A "is_whole" dq s f cdv),Ds P w K mg base ["thing"] "is_whole" dq f cdv A outer s H E b}:=
 ⟨_,fun ya yb yc hr=>have nd:=n8.nd;(az (aJ (lZ (aH b7 yc (ao (aj 0) (ao (fD (T := "int") yb) ak))) (mj (wH (aH b7 yc (ao (aj 0) (ao (fD (T := "bool") ya) ak))))))))⟩
noncomputable def o7 :aa->DM Fl:=(pN).1
abbrev cu:Stmt:=top 8
theorem jO:FnScope ["thing", "many"] ["thing", "many"] (defScope cu):=bD rfl rfl rfl rfl (by decide +kernel)
@[simp] noncomputable def lK (F_is_whole:Fn):{b // ∀ {P w K mg base f cdv A outer s H E} (ya:DefD P w K mg base 1 "is_whole" ["thing"] F_is_whole) (yb:Nn mg "all") (yc:Nn mg "isinstance") (yd:Nn mg "len") (ye:Nn mg "tuple") (hr:Rm 1 A "are_weights" cu s f cdv),Ds P w K mg base ["thing", "many"] "are_weights" cu f cdv A outer s H E b}:=
 ⟨_,fun ya yb yc yd ye hr=>have nd:=jO.nd;(aq (cH (DW.dt (gh (cM (bO (aH b7 yc (ao (aj 0) (ao (fD (T := "tuple") ye) ak))) (fun _=>rfl))) (fH (bK (dX hr.units) (aH call_lenD yd (ao (aj 0) ak)) (aj 1)))))
  (az (aJ cL))
  bH)
  (az (aJ (aH (gq hr.hd) yb (ao (aU (own:=["weight"]) (js:=[]) (fr:=[]) .val rfl (by refine ⟨rfl,by decide +kernel,rfl,bf ?_,fun m_=>aZ rfl,by decide,rfl,aN rfl,aO ?_,aY ?_⟩<;>((repeat' apply And.intro)<;>first | exact True.intro | rfl | exact Or.inl rfl | exact Or.inr rfl | exact ⟨_,rfl⟩)) (dD (aj 0)) (fun pins_ m_ fp_ C_ s_ H_=>(aA (i:=0) (show List.Nodup ((["weight"]:List Str)++([]:List Str)) by decide) rfl (Or.inl rfl))) (fun pins_ m_ fp_ C_ s_ H_=>aR) (fun pins_ m_ fp_ C_ s_ H_=>(lZ (aF ya hr jF (ao (aj 0) ak)) (mj (iu t7 (aj 0) aB))))) ak)))))⟩
noncomputable def lF (F_is_whole:Fn):aa->DM Fl:=(lK F_is_whole).1
abbrev dm:Stmt:=top 9
theorem n6:FnScope ["thing", "many"] ["thing", "many"] (defScope dm):=bD rfl rfl rfl rfl (by decide +kernel)
@[simp] noncomputable def pM (F_are_weights:Fn):{b // ∀ {P w K mg base f cdv A outer s H E} (ya:DefD P w K mg base 2 "are_weights" ["thing", "many"] F_are_weights) (yb:Nn mg "all") (yc:Nn mg "isinstance") (yd:Nn mg "len") (ye:Nn mg "tuple") (hr:Rm 2 A "are_rows" dm s f cdv),Ds P w K mg base ["thing", "many"] "are_rows" dm f cdv A outer s H E b}:=
 ⟨_,fun ya yb yc yd ye hr=>have nd:=n6.nd;(aq (cH (DW.dt (gh (cM (bO (aH b7 yc (ao (aj 0) (ao (fD (T := "tuple") ye) ak))) (fun _=>rfl))) (fH (bK (dX hr.units) (aH call_lenD yd (ao (aj 0) ak)) (aj 1)))))
  (az (aJ cL))
  bH)
  (az (aJ (aH (gq hr.hd) yb (ao (aU (own:=["row"]) (js:=[1]) (fr:=["many"]) .val rfl (by refine ⟨rfl,by decide +kernel,rfl,bf ?_,fun m_=>aZ rfl,by decide,rfl,aN rfl,aO ?_,aY ?_⟩<;>((repeat' apply And.intro)<;>first | exact True.intro | rfl | exact Or.inl rfl | exact Or.inr rfl | exact ⟨_,rfl⟩)) (dD (aj 0)) (fun pins_ m_ fp_ C_ s_ H_=>(aA (i:=0) (show List.Nodup ((["row"]:List Str)++(["many"]:List Str)) by decide) rfl (Or.inl rfl))) (fun pins_ m_ fp_ C_ s_ H_=>aR) (fun pins_ m_ fp_ C_ s_ H_=>(aF ya hr jF (ao (aj 0) (ao (aj 1) ak))))) ak)))))⟩
noncomputable def jW (F_are_weights:Fn):aa->DM Fl:=(pM F_are_weights).1
abbrev gf:Stmt:=top 11
theorem uv:FnScope ["first", "second", "thing", "many", "columns"] ["first", "second", "thing"] (defScope gf):=bD rfl rfl rfl rfl (by decide +kernel)
@[simp] noncomputable def qu (F_are_rows:Fn):{b // ∀ {P w K mg base f cdv A outer s H E} (ya:DefD P w K mg base 3 "are_rows" ["thing", "many"] F_are_rows) (yb:Nn mg "len") (yc:Nn mg "list") (yd:Nn mg "range") (ye:Nn mg "sum") (yf:Nn mg "tuple") (hr:Rm 3 A "joins" gf s f cdv),Ds P w K mg base ["first", "second", "thing", "many", "columns"] "joins" gf f cdv A outer s H E b}:=
 ⟨_,fun ya yb yc yd ye yf hr=>have nd:=uv.nd;(aq (bA (i:=3) nd rfl (Or.inl rfl) (aH call_lenD yb (ao (aj 0) ak)))
  (aq (cH (cM (bO (aF ya hr bh (ao (aj 2) (ao (aj 3) ak))) (fun _=>rfl)))
  (az (aJ cL))
  bH)
  (aq (iz (i:=4) (own:=["place"]) (js:=[2]) (fr:=["thing"]) .val nd rfl (Or.inl rfl) rfl (by refine ⟨rfl,by decide +kernel,rfl,bf ?_,fun m_=>aZ rfl,by decide,rfl,aN rfl,aO ?_,aY ?_⟩<;>((repeat' apply And.intro)<;>first | exact True.intro | rfl | exact Or.inl rfl | exact Or.inr rfl | exact ⟨_,rfl⟩)) (aW rfl yd (ao (aj 3) ak)) (fun pins_ m_ fp_ C_ s_ H_=>(aA (i:=0) (show List.Nodup ((["place"]:List Str)++(["thing"]:List Str)) by decide) rfl (Or.inr rfl))) (fun pins_ m_ fp_ C_ s_ H_=>aR) (fun pins_ m_ fp_ C_ s_ H_=>(dZ (T := "tuple") bZ yf (ao (aU (own:=["row"]) (js:=[0]) (fr:=["place"]) .val rfl (by refine ⟨rfl,by decide +kernel,rfl,bf ?_,fun m_=>aZ rfl,by decide,rfl,aN rfl,aO ?_,aY ?_⟩<;>((repeat' apply And.intro)<;>first | exact True.intro | rfl | exact Or.inl rfl | exact Or.inr rfl | exact ⟨_,rfl⟩)) (dD (aj 1)) (fun pins_ m_ fp_ C_ s_ H_=>(aA (i:=0) (show List.Nodup ((["row"]:List Str)++(["place"]:List Str)) by decide) rfl (Or.inl rfl))) (fun pins_ m_ fp_ C_ s_ H_=>aR) (fun pins_ m_ fp_ C_ s_ H_=>(aG aQ (aj 0) (aj 1)))) ak))))
  (az (aJ (lZ (iu (gZ hr.units) (aU (own:=["row"]) (js:=[]) (fr:=[]) .val rfl (by refine ⟨rfl,by decide +kernel,rfl,bf ?_,fun m_=>aZ rfl,by decide,rfl,aN rfl,aO ?_,aY ?_⟩<;>((repeat' apply And.intro)<;>first | exact True.intro | rfl | exact Or.inl rfl | exact Or.inr rfl | exact ⟨_,rfl⟩)) (dD (aj 2)) (fun pins_ m_ fp_ C_ s_ H_=>(aA (i:=0) (show List.Nodup ((["row"]:List Str)++([]:List Str)) by decide) rfl (Or.inl rfl))) (fun pins_ m_ fp_ C_ s_ H_=>aR) (fun pins_ m_ fp_ C_ s_ H_=>(aH (bN hr.hd) ye (ao (aj 0) ak)))) (dZ (T := "list") gP yc (ao (aj 0) ak))) (mj (iu (gZ hr.units) (aU (own:=["column"]) (js:=[]) (fr:=[]) .val rfl (by refine ⟨rfl,by decide +kernel,rfl,bf ?_,fun m_=>aZ rfl,by decide,rfl,aN rfl,aO ?_,aY ?_⟩<;>((repeat' apply And.intro)<;>first | exact True.intro | rfl | exact Or.inl rfl | exact Or.inr rfl | exact ⟨_,rfl⟩)) (jB (aj 4)) (fun pins_ m_ fp_ C_ s_ H_=>(aA (i:=0) (show List.Nodup ((["column"]:List Str)++([]:List Str)) by decide) rfl (Or.inl rfl))) (fun pins_ m_ fp_ C_ s_ H_=>aR) (fun pins_ m_ fp_ C_ s_ H_=>(aH (bN hr.hd) ye (ao (aj 0) ak)))) (dZ (T := "list") gP yc (ao (aj 1) ak))))))))))⟩
noncomputable def uG (F_are_rows:Fn):aa->DM Fl:=(qu F_are_rows).1
abbrev bM:Stmt:=top 12
theorem iK:FnScope ["first", "second", "many", "joining", "place", "left", "wanted", "x", "y", "moved"] ["first", "second"] (defScope bM):=bD rfl rfl rfl rfl (by decide +kernel)
@[simp] noncomputable def fK :{b // ∀ {P w K mg base f cdv A outer s H E} (ya:Nn mg "len") (yb:Nn mg "min") (yc:Nn mg "range") (yd:Nn mg "tuple") (hr:Rm 0 A "least_joining" bM s f cdv),Ds P w K mg base ["first", "second", "many", "joining", "place", "left", "wanted", "x", "y", "moved"] "least_joining" bM f cdv A outer s H E b}:=
 ⟨_,fun ya yb yc yd hr=>have nd:=iK.nd;(aq (bA (i:=2) nd rfl (Or.inr rfl) (aH call_lenD ya (ao (aj 0) ak)))
  (aq (bA (i:=3) nd rfl (Or.inr rfl) (aU (own:=["place"]) (js:=[2]) (fr:=["many"]) .val rfl (by refine ⟨rfl,by decide +kernel,rfl,bf ?_,fun m_=>aZ rfl,by decide,rfl,aN rfl,aO ?_,aY ?_⟩<;>((repeat' apply And.intro)<;>first | exact True.intro | rfl | exact Or.inl rfl | exact Or.inr rfl | exact ⟨_,rfl⟩)) (aW rfl yc (ao (aj 2) ak)) (fun pins_ m_ fp_ C_ s_ H_=>(aA (i:=0) (show List.Nodup ((["place"]:List Str)++(["many"]:List Str)) by decide) rfl (Or.inl rfl))) (fun pins_ m_ fp_ C_ s_ H_=>aR) (fun pins_ m_ fp_ C_ s_ H_=>(aX qt (fB (ao aB ak)) (aj 1)))))
  (aq (dF 0 PassesOwn.leaving rfl (aW rfl yc (ao (aj 2) ak)) (aA (i:=4) nd rfl (Or.inl rfl))
  (az (iy (aH (jX rfl) yb (ao (aG aQ (aj 0) (aj 4)) (ao (aG aQ (aj 1) (aj 4)) ak))) (iw (aG aQ (aj 3) (aj 4)) (aj 4) jm))))
  (aq (iz (i:=5) (own:=["place"]) (js:=[0,3]) (fr:=["first", "joining"]) .sto nd rfl (Or.inl rfl) rfl (by refine ⟨rfl,by decide +kernel,rfl,bf ?_,fun m_=>aZ rfl,by decide,rfl,aN rfl,aO ?_,aY ?_⟩<;>((repeat' apply And.intro)<;>first | exact True.intro | rfl | exact Or.inl rfl | exact Or.inr rfl | exact ⟨_,rfl⟩)) (aW rfl yc (ao (aj 2) ak)) (fun pins_ m_ fp_ C_ s_ H_=>(aA (i:=0) (show List.Nodup ((["place"]:List Str)++(["first", "joining"]:List Str)) by decide) rfl (Or.inl rfl))) (fun pins_ m_ fp_ C_ s_ H_=>aR) (fun pins_ m_ fp_ C_ s_ H_=>(aX fX (aG aQ (aj 1) (aj 0)) (aG aQ (aG aQ (aj 2) (aj 0)) (aj 0)))))
  (aq (iz (i:=6) (own:=["place"]) (js:=[1,3]) (fr:=["second", "joining"]) .sto nd rfl (Or.inl rfl) rfl (by refine ⟨rfl,by decide +kernel,rfl,bf ?_,fun m_=>aZ rfl,by decide,rfl,aN rfl,aO ?_,aY ?_⟩<;>((repeat' apply And.intro)<;>first | exact True.intro | rfl | exact Or.inl rfl | exact Or.inr rfl | exact ⟨_,rfl⟩)) (aW rfl yc (ao (aj 2) ak)) (fun pins_ m_ fp_ C_ s_ H_=>(aA (i:=0) (show List.Nodup ((["place"]:List Str)++(["second", "joining"]:List Str)) by decide) rfl (Or.inl rfl))) (fun pins_ m_ fp_ C_ s_ H_=>aR) (fun pins_ m_ fp_ C_ s_ H_=>(aX fX (aG aQ (aj 1) (aj 0)) (aG aQ (aG aQ (aj 2) (aj 0)) (aj 0)))))
  (aq (dF 0 PassesOwn.leaving rfl (aW rfl yc (ao (aj 2) ak)) (aA (i:=7) nd rfl (Or.inl rfl))
  (az (dF 0 PassesOwn.leaving rfl (aW rfl yc (ao (aj 2) ak)) (aA (i:=8) nd rfl (Or.inl rfl))
  (aq (bA (i:=9) nd rfl (Or.inl rfl) (aH (jX rfl) yb (ao (aG aQ (aj 5) (aj 7)) (ao (aG aQ (aj 6) (aj 8)) ak))))
  (aq (qd (aG aQ (aj 3) (aj 7)) (aj 8) yQ (aj 9))
  (aq (qd (aj 5) (aj 7) t8 (aj 9))
  (az (qd (aj 6) (aj 8) t8 (aj 9)))))))))
  (az (aJ (dZ (T := "tuple") bZ yd (ao (aU (own:=["row"]) (js:=[]) (fr:=[]) .val rfl (by refine ⟨rfl,by decide +kernel,rfl,bf ?_,fun m_=>aZ rfl,by decide,rfl,aN rfl,aO ?_,aY ?_⟩<;>((repeat' apply And.intro)<;>first | exact True.intro | rfl | exact Or.inl rfl | exact Or.inr rfl | exact ⟨_,rfl⟩)) (jB (aj 3)) (fun pins_ m_ fp_ C_ s_ H_=>(aA (i:=0) (show List.Nodup ((["row"]:List Str)++([]:List Str)) by decide) rfl (Or.inl rfl))) (fun pins_ m_ fp_ C_ s_ H_=>aR) (fun pins_ m_ fp_ C_ s_ H_=>(dZ (T := "tuple") bZ yd (ao (aj 0) ak)))) ak))))))))))⟩
noncomputable def iV :aa->DM Fl:=(fK).1
abbrev dB:Stmt:=top 13
theorem oh:FnScope ["things"] ["things"] (defScope dB):=bD rfl rfl rfl rfl (by decide +kernel)
@[simp] noncomputable def pO :{b // ∀ {P w K mg base f cdv A outer s H E} (ya:Nn mg "len") (yb:Nn mg "range") (hr:Rm 0 A "pairs_of" dB s f cdv),Ds P w K mg base ["things"] "pairs_of" dB f cdv A outer s H E b}:=
 ⟨_,fun ya yb hr=>have nd:=oh.nd;(az (aJ (yE (own:=["x", "y"]) (js:=[0]) (fr:=["things"]) .val rfl (by refine ⟨rfl,by decide +kernel,rfl,bf ?_,fun m_=>aZ rfl,by decide,rfl,aN rfl,aO ?_,aY ?_⟩<;>((repeat' apply And.intro)<;>first | exact True.intro | rfl | exact Or.inl rfl | exact Or.inr rfl | exact ⟨_,rfl⟩)) (aW rfl yb (ao (aH call_lenD ya (ao (aj 0) ak)) ak)) (fun pins_ m_ fp_ C_ s_ H_=>(aA (i:=0) (show List.Nodup ((["x", "y"]:List Str)++(["things"]:List Str)) by decide) rfl (Or.inl rfl))) (fun pins_ m_ fp_ C_ s_ H_=>aR) (fun pins_ m_ fp_ C_ s_ H_=>(wJ rfl yb (ao (aX cJ (aj 0) aB) (ao (aH call_lenD ya (ao (aj 2) ak)) ak)))) (fun pins_ m_ fp_ C_ s_ H_=>(aA (i:=1) (show List.Nodup ((["x", "y"]:List Str)++(["things"]:List Str)) by decide) rfl (Or.inl rfl))) (fun pins_ m_ fp_ C_ s_ H_=>aR) (fun pins_ m_ fp_ C_ s_ H_=>(pC (ao (aG aQ (aj 2) (aj 0)) (ao (aG aQ (aj 2) (aj 1)) ak)))))))⟩
noncomputable def o8 :aa->DM Fl:=(pO).1
abbrev bY:Stmt:=top 14
theorem jl:FnScope ["lots", "thing", "pairs"] ["lots", "thing"] (defScope bY):=bD rfl rfl rfl rfl (by decide +kernel)
@[simp] noncomputable def jK (F_pairs_of F_joins:Fn):{b // ∀ {P w K mg base f cdv A outer s H E} (ya:DefD P w K mg base 1 "pairs_of" ["things"] F_pairs_of) (yb:DefD P w K mg base 4 "joins" ["first", "second", "thing"] F_joins) (yc:Nn mg "all") (yd:Nn mg "isinstance") (ye:Nn mg "len") (yf:Nn mg "tuple") (yg:Nn mg "zip") (hr:Rm 4 A "are_joinings" bY s f cdv),Ds P w K mg base ["lots", "thing", "pairs"] "are_joinings" bY f cdv A outer s H E b}:=
 ⟨_,fun ya yb yc yd ye yf yg hr=>have nd:=jl.nd;(aq (bA (i:=2) nd rfl (Or.inl rfl) (aF ya hr bh (ao (aj 0) ak)))
  (aq (cH (DW.dt (gh (cM (bO (aH b7 yd (ao (aj 1) (ao (fD (T := "tuple") yf) ak))) (fun _=>rfl))) (fH (bK (dX hr.units) (aH call_lenD ye (ao (aj 1) ak)) (aH call_lenD ye (ao (aj 2) ak))))))
  (az (aJ cL))
  bH)
  (az (aJ (aH (gq hr.hd) yc (ao (aU (own:=["joining", "first", "second"]) (js:=[]) (fr:=[]) .val rfl (by refine ⟨rfl,by decide +kernel,rfl,bf ?_,fun m_=>aZ rfl,by decide,rfl,aN rfl,aO ?_,aY ?_⟩<;>((repeat' apply And.intro)<;>first | exact True.intro | rfl | exact Or.inl rfl | exact Or.inr rfl | exact ⟨_,rfl⟩)) (sV rfl yg (ao (aj 2) (ao (aj 1) ak))) (fun pins_ m_ fp_ C_ s_ H_=>(fG (n:=2) rfl (bw (fG (n:=2) rfl (bw (aA (i:=1) (show List.Nodup ((["joining", "first", "second"]:List Str)++([]:List Str)) by decide) rfl (Or.inl rfl)) (bw (aA (i:=2) (show List.Nodup ((["joining", "first", "second"]:List Str)++([]:List Str)) by decide) rfl (Or.inl rfl)) dW))) (bw (aA (i:=0) (show List.Nodup ((["joining", "first", "second"]:List Str)++([]:List Str)) by decide) rfl (Or.inl rfl)) dW)))) (fun pins_ m_ fp_ C_ s_ H_=>aR) (fun pins_ m_ fp_ C_ s_ H_=>(aF yb hr jF (ao (aj 1) (ao (aj 2) (ao (aj 0) ak)))))) ak))))))⟩
noncomputable def jA (F_pairs_of F_joins:Fn):aa->DM Fl:=(jK F_pairs_of F_joins).1
abbrev bJ:Stmt:=top 15
theorem gM:FnScope ["lots"] ["lots"] (defScope bJ):=bD rfl rfl rfl rfl (by decide +kernel)
@[simp] noncomputable def eV (F_pairs_of F_least_joining:Fn):{b // ∀ {P w K mg base f cdv A outer s H E} (ya:DefD P w K mg base 1 "pairs_of" ["things"] F_pairs_of) (yb:DefD P w K mg base 1 "least_joining" ["first", "second"] F_least_joining) (yc:Nn mg "tuple") (hr:Rm 1 A "least_joinings" bJ s f cdv),Ds P w K mg base ["lots"] "least_joinings" bJ f cdv A outer s H E b}:=
 ⟨_,fun ya yb yc hr=>have nd:=gM.nd;(az (aJ (dZ (T := "tuple") bZ yc (ao (aU (own:=["first", "second"]) (js:=[]) (fr:=[]) .val rfl (by refine ⟨rfl,by decide +kernel,rfl,bf ?_,fun m_=>aZ rfl,by decide,rfl,aN rfl,aO ?_,aY ?_⟩<;>((repeat' apply And.intro)<;>first | exact True.intro | rfl | exact Or.inl rfl | exact Or.inr rfl | exact ⟨_,rfl⟩)) (jB (aF ya hr bh (ao (aj 0) ak))) (fun pins_ m_ fp_ C_ s_ H_=>(fG (n:=2) rfl (bw (aA (i:=0) (show List.Nodup ((["first", "second"]:List Str)++([]:List Str)) by decide) rfl (Or.inl rfl)) (bw (aA (i:=1) (show List.Nodup ((["first", "second"]:List Str)++([]:List Str)) by decide) rfl (Or.inl rfl)) dW)))) (fun pins_ m_ fp_ C_ s_ H_=>aR) (fun pins_ m_ fp_ C_ s_ H_=>(aF yb hr jF (ao (aj 0) (ao (aj 1) ak))))) ak))))⟩
noncomputable def il (F_pairs_of F_least_joining:Fn):aa->DM Fl:=(eV F_pairs_of F_least_joining).1
abbrev bL:Stmt:=top 17
theorem iJ:FnScope ["thing", "whole"] ["thing"] (defScope bL):=bD rfl rfl rfl rfl (by decide +kernel)
@[simp] noncomputable def jf (F_are_rows:Fn):{b // ∀ {P w K mg base f cdv A outer s H E t_MOST_PLACES} (ya:DefD P w K mg base 3 "are_rows" ["thing", "many"] F_are_rows) (yb:Gi mg "MOST_PLACES" 25 t_MOST_PLACES) (yc:Nn mg "all") (yd:Nn mg "isinstance") (ye:Nn mg "len") (yf:Nn mg "sum") (yg:Nn mg "tuple") (hr:Rm 3 A "can_be_walked" bL s f cdv),Ds P w K mg base ["thing", "whole"] "can_be_walked" bL f cdv A outer s H E b}:=
 ⟨_,fun ya yb yc yd ye yf yg hr=>have nd:=iJ.nd;(aq (cH (DW.dt (gh (cM (bO (aH b7 yd (ao (aj 0) (ao (fD (T := "tuple") yg) ak))) (fun _=>rfl))) (gh (cM (yH xr xr aB (aH call_lenD ye (ao (aj 0) ak)) (DQ yb))) (fH (cM (bO (aF ya hr bh (ao (aj 0) (ao (aH call_lenD ye (ao (aj 0) ak)) ak))) (fun _=>rfl)))))))
  (az (aJ cL))
  bH)
  (aq (bA (i:=1) nd rfl (Or.inr rfl) (aH (bN hr.hd) yf (ao (aG aQ (aj 0) aB) ak)))
  (az (aJ (lZ (iu t7 (aj 1) aB) (mj (aH (gq hr.hd) yc (ao (aU (own:=["row"]) (js:=[1]) (fr:=["whole"]) .val rfl (by refine ⟨rfl,by decide +kernel,rfl,bf ?_,fun m_=>aZ rfl,by decide,rfl,aN rfl,aO ?_,aY ?_⟩<;>((repeat' apply And.intro)<;>first | exact True.intro | rfl | exact Or.inl rfl | exact Or.inr rfl | exact ⟨_,rfl⟩)) (dD (aj 0)) (fun pins_ m_ fp_ C_ s_ H_=>(aA (i:=0) (show List.Nodup ((["row"]:List Str)++(["whole"]:List Str)) by decide) rfl (Or.inl rfl))) (fun pins_ m_ fp_ C_ s_ H_=>aR) (fun pins_ m_ fp_ C_ s_ H_=>(iu (gZ hr.units) (aH (bN hr.hd) yf (ao (aj 0) ak)) (aj 1)))) ak))))))))⟩
noncomputable def iU (F_are_rows:Fn):aa->DM Fl:=(jf F_are_rows).1
abbrev bC:Stmt:=inClass (top 18) 0
theorem iI:FnScope ["self", "rows"] ["self", "rows"] (defScope bC):=bD rfl rfl rfl rfl (by decide +kernel)
@[simp] noncomputable def jc (F_can_be_walked:Fn):{b // ∀ {P w K mg base f cdv A outer s H E C_Walk} (ya:DefD P w K mg base 4 "can_be_walked" ["thing"] F_can_be_walked) (yb:OCls K mg "Walk" C_Walk ["rows", "whole"]) (yc:Nn mg "sum") (hr:Rm 4 A "Walk.__init__" bC s f cdv),Ds P w K mg base ["self", "rows"] "Walk.__init__" bC f cdv A outer s H E b}:=
 ⟨_,fun ya yb yc hr=>have nd:=iI.nd;(aq (cH (cM (bO (aF ya hr bh (ao (aj 1) ak)) (fun _=>rfl)))
  (az yF)
  bH)
  (aq (wK yb (by decide) (aj 0) (aj 1))
  (az (wK yb (by decide) (aj 0) (aH (bN hr.hd) yc (ao (aG aQ (aj 1) aB) ak))))))⟩
noncomputable def iT (F_can_be_walked:Fn):aa->DM Fl:=(jc F_can_be_walked).1
abbrev dR:Stmt:=top 20
theorem pY:FnScope ["walk", "thing"] ["walk", "thing"] (defScope dR):=bD rfl rfl rfl rfl (by decide +kernel)
@[simp] noncomputable def qR (F_are_joinings:Fn):{b // ∀ {P w K mg base f cdv A outer s H E C_Walk} (ya:DefD P w K mg base 5 "are_joinings" ["lots", "thing"] F_are_joinings) (yb:OCls K mg "Walk" C_Walk ["rows", "whole"]) (hr:Rm 5 A "is_rule" dR s f cdv),Ds P w K mg base ["walk", "thing"] "is_rule" dR f cdv A outer s H E b}:=
 ⟨_,fun ya yb hr=>have nd:=pY.nd;(az (aJ (aF ya hr bh (ao (wF yb (by decide) (aj 0)) (ao (aj 1) ak)))))⟩
noncomputable def qG (F_are_joinings:Fn):aa->DM Fl:=(qR F_are_joinings).1
abbrev cT:Stmt:=top 21
theorem mU:FnScope ["walk"] ["walk"] (defScope cT):=bD rfl rfl rfl rfl (by decide +kernel)
@[simp] noncomputable def jx (F_least_joinings:Fn):{b // ∀ {P w K mg base f cdv A outer s H E C_Walk} (ya:DefD P w K mg base 2 "least_joinings" ["lots"] F_least_joinings) (yb:OCls K mg "Walk" C_Walk ["rows", "whole"]) (hr:Rm 2 A "best_rule" cT s f cdv),Ds P w K mg base ["walk"] "best_rule" cT f cdv A outer s H E b}:=
 ⟨_,fun ya yb hr=>have nd:=mU.nd;(az (aJ (aF ya hr bh (ao (wF yb (by decide) (aj 0)) ak))))⟩
noncomputable def nQ (F_least_joinings:Fn):aa->DM Fl:=(jx F_least_joinings).1
abbrev bU:Stmt:=top 23
theorem ji:FnScope ["_law_script", "_law_k"] ["_law_script", "_law_k"] (defScope bU):=bD rfl rfl rfl rfl (by decide +kernel)
@[simp] noncomputable def jH :{b // ∀ {P w K mg base f cdv A outer s H E} (ya:Nn mg "len") (hr:Rm 0 A "_law_cell_at" bU s f cdv),Ds P w K mg base ["_law_script", "_law_k"] "_law_cell_at" bU f cdv A outer s H E b}:=
 ⟨_,fun ya hr=>have nd:=ji.nd;(aq (cH (bK uc (aj 1) (aH call_lenD ya (ao (aj 0) ak)))
  (az (aJ (aG aQ (aj 0) (aj 1))))
  bH)
  (az (aJ aB)))⟩
noncomputable def fW :aa->DM Fl:=(jH).1
abbrev cQ:Stmt:=top 24
theorem mQ:FnScope ["_law_seed"] ["_law_seed"] (defScope cQ):=bD rfl rfl rfl rfl (by decide +kernel)
@[simp] noncomputable def nY :{b // ∀ {P w K mg base f cdv A outer s H E}  (hr:Rm 0 A "_law_next" cQ s f cdv),Ds P w K mg base ["_law_seed"] "_law_next" cQ f cdv A outer s H E b}:=
 ⟨_,fun  hr=>have nd:=mQ.nd;(aq (bA (i:=0) nd rfl (Or.inl rfl) (aX jE (aX cJ (aj 0) aB) aB))
  (az (aJ (aX jE (aX cJ (aX cJ (aX qp (aj 0) (aj 0)) (aX qp aB (aj 0))) aB) aB))))⟩
noncomputable def nO :aa->DM Fl:=(nY).1
abbrev cj:Stmt:=top 25
theorem jN:FnScope ["_law_cell", "_law_left"] ["_law_cell"] (defScope cj):=bD rfl rfl rfl rfl (by decide +kernel)
@[simp] noncomputable def gJ :{b // ∀ {P w K mg base f cdv A outer s H E} (ya:Nn mg "int") (yb:Nn mg "max") (hr:Rm 0 A "_law_pen_of" cj s f cdv),Ds P w K mg base ["_law_cell", "_law_left"] "_law_pen_of" cj f cdv A outer s H E b}:=
 ⟨_,fun ya yb hr=>have nd:=jN.nd;(aq (bA (i:=1) nd rfl (Or.inl rfl) (aH (ph rfl) yb (ao (aj 0) (ao (aX fX aB (aj 0)) ak))))
  (az (aJ (uK (ao (aj 1) (ao (dZ (T := "int") vy ya (ao (iu t7 (aj 1) (aX uV aB aB)) ak)) (ao (aX jE (aj 1) aB) ak)))))))⟩
noncomputable def lE :aa->DM Fl:=(gJ).1
abbrev cP:Stmt:=top 26
theorem mO:FnScope ["_law_pen", "_law_many", "_law_found"] ["_law_pen", "_law_many"] (defScope cP):=bD rfl rfl rfl rfl (by decide +kernel)
@[simp] noncomputable def ju (F__law_next:Fn):{b // ∀ {P w K mg base f cdv A outer s H E} (ya:DefD P w K mg base 1 "_law_next" ["_law_seed"] F__law_next) (hr:Rm 1 A "_law_draw" cP s f cdv),Ds P w K mg base ["_law_pen", "_law_many", "_law_found"] "_law_draw" cP f cdv A outer s H E b}:=
 ⟨_,fun ya hr=>have nd:=mO.nd;(aq (cH (DW.dt (BP (bK (gZ hr.units) (aG aQ (aj 0) aB) aB) (zX (bK pK (aG aQ (aj 0) aB) aB))))
  (aq (bA (i:=2) nd rfl (Or.inl rfl) (aX jE (aG aQ (aj 0) aB) (aj 1)))
  (aq (iy (aX oO (aG aQ (aj 0) aB) (aj 1)) (iw (aj 0) aB jm))
  (az (aJ (aj 2)))))
  bH)
  (aq (iy (aF ya hr bh (ao (aX cJ (aF ya hr bh (ao (aG aQ (aj 0) aB) ak)) aB) ak)) (iw (aj 0) aB jm))
  (az (aJ (aX jE (aX oO (aG aQ (aj 0) aB) aB) (aj 1))))))⟩
noncomputable def nJ (F__law_next:Fn):aa->DM Fl:=(ju F__law_next).1
abbrev cG:Stmt:=top 27
theorem lN:FnScope ["_law_thing"] ["_law_thing"] (defScope cG):=bD rfl rfl rfl rfl (by decide +kernel)
@[simp] noncomputable def mK :{b // ∀ {P w K mg base f cdv A outer s H E} (ya:Nn mg "bool") (yb:Nn mg "int") (yc:Nn mg "isinstance") (hr:Rm 0 A "_law_whole" cG s f cdv),Ds P w K mg base ["_law_thing"] "_law_whole" cG f cdv A outer s H E b}:=
 ⟨_,fun ya yb yc hr=>have nd:=lN.nd;(az (aJ (lZ (aH b7 yc (ao (aj 0) (ao (fD (T := "int") yb) ak))) (mj (wH (aH b7 yc (ao (aj 0) (ao (fD (T := "bool") ya) ak))))))))⟩
noncomputable def lY :aa->DM Fl:=(mK).1
abbrev dj:Stmt:=top 28
theorem nZ:FnScope ["_law_pen", "_law_many", "_law_whole_here", "_law_some", "_law_row_here", "_law_turn", "_law_at"] ["_law_pen", "_law_many", "_law_whole_here", "_law_some"] (defScope dj):=bD rfl rfl rfl rfl (by decide +kernel)
@[simp] noncomputable def kW (F__law_draw:Fn):{b // ∀ {P w K mg base f cdv A outer s H E} (ya:DefD P w K mg base 2 "_law_draw" ["_law_pen", "_law_many"] F__law_draw) (yb:Nn mg "len") (yc:Nn mg "range") (yd:Nn mg "tuple") (hr:Rm 2 A "_law_row" dj s f cdv),Ds P w K mg base ["_law_pen", "_law_many", "_law_whole_here", "_law_some", "_law_row_here", "_law_turn", "_law_at"] "_law_row" dj f cdv A outer s H E b}:=
 ⟨_,fun ya yb yc yd hr=>have nd:=nZ.nd;(aq (bA (i:=4) nd rfl (Or.inl rfl) (aX qt (fB (ao aB ak)) (aj 1)))
  (aq (dF 0 PassesOwn.leaving rfl (aW rfl yc (ao (aj 2) ak)) (aA (i:=5) nd rfl (Or.inl rfl))
  (aq (bA (i:=6) nd rfl (Or.inl rfl) (aG aQ (aj 3) (aF ya hr bh (ao (aj 0) (ao (aH call_lenD yb (ao (aj 3) ak)) ak)))))
  (az (iy (aX cJ (aG aQ (aj 4) (aj 6)) aB) (iw (aj 4) (aj 6) jm)))))
  (az (aJ (dZ (T := "tuple") bZ yd (ao (aj 4) ak))))))⟩
noncomputable def o6 (F__law_draw:Fn):aa->DM Fl:=(kW F__law_draw).1
abbrev cR:Stmt:=top 29
theorem mR:FnScope ["_law_pen", "_law_top", "_law_many", "_law_whole_here", "_law_rows_here", "_law_x", "_law_some", "_law_by"] ["_law_pen", "_law_top"] (defScope cR):=bD rfl rfl rfl rfl (by decide +kernel)
@[simp] noncomputable def jw (F__law_draw F__law_row:Fn):{b // ∀ {P w K mg base f cdv A outer s H E} (ya:DefD P w K mg base 2 "_law_draw" ["_law_pen", "_law_many"] F__law_draw) (yb:DefD P w K mg base 3 "_law_row" ["_law_pen", "_law_many", "_law_whole_here", "_law_some"] F__law_row) (yc:Nn mg "list") (yd:Nn mg "range") (ye:Nn mg "tuple") (hr:Rm 3 A "_law_rows" cR s f cdv),Ds P w K mg base ["_law_pen", "_law_top", "_law_many", "_law_whole_here", "_law_rows_here", "_law_x", "_law_some", "_law_by"] "_law_rows" cR f cdv A outer s H E b}:=
 ⟨_,fun ya yb yc yd ye hr=>have nd:=mR.nd;(aq (wL (i:=2) (j:=3) rfl nd rfl rfl (by decide) rfl rfl (ao (aX cJ aB (aF ya hr bh (ao (aj 0) (ao (aj 1) ak)))) (ao (aX cJ aB (aF ya hr bh (ao (aj 0) (ao aB ak)))) ak)) rfl)
  (aq (bA (i:=4) nd rfl (Or.inl rfl) (uK ak))
  (aq (dF 0 PassesOwn.leaving rfl (aW rfl yd (ao (aj 2) ak)) (aA (i:=5) nd rfl (Or.inl rfl))
  (aq (bA (i:=6) nd rfl (Or.inl rfl) (aG aQ (fB (ao (wG rfl yc yd (ao (aj 2) ak)) (ao (fB (ao (aF ya hr bh (ao (aj 0) (ao (aj 2) ak))) (ao (aF ya hr bh (ao (aj 0) (ao (aj 2) ak))) ak))) ak))) (aF ya hr bh (ao (aj 0) (ao aB ak)))))
  (az (zW (DN PySem.F.plainAttrs_list PySem.F.slot_list_append PySem.F.type_list_append Af (aj 4) (ao (aF yb hr bh (ao (aj 0) (ao (aj 2) (ao (aj 3) (ao (aj 6) ak))))) ak))))))
  (aq (bA (i:=7) nd rfl (Or.inr rfl) (aG aQ (fB (ao aB (ao aB (ao aB (ao (aX uV aB aB) ak))))) (aF ya hr bh (ao (aj 0) (ao aB ak)))))
  (az (aJ (dZ (T := "tuple") bZ ye (ao (aU (own:=["_law_row_here"]) (js:=[7]) (fr:=["_law_by"]) .val rfl (by refine ⟨rfl,by decide +kernel,rfl,bf ?_,fun m_=>aZ rfl,by decide,rfl,aN rfl,aO ?_,aY ?_⟩<;>((repeat' apply And.intro)<;>first | exact True.intro | rfl | exact Or.inl rfl | exact Or.inr rfl | exact ⟨_,rfl⟩)) (jB (aj 4)) (fun pins_ m_ fp_ C_ s_ H_=>(aA (i:=0) (show List.Nodup ((["_law_row_here"]:List Str)++(["_law_by"]:List Str)) by decide) rfl (Or.inl rfl))) (fun pins_ m_ fp_ C_ s_ H_=>aR) (fun pins_ m_ fp_ C_ s_ H_=>(dZ (T := "tuple") bZ ye (ao (aU (own:=["_law_weight"]) (js:=[1]) (fr:=["_law_by"]) .val rfl (by refine ⟨rfl,by decide +kernel,rfl,bf ?_,fun m_=>aZ rfl,by decide,rfl,aN rfl,aO ?_,aY ?_⟩<;>((repeat' apply And.intro)<;>first | exact True.intro | rfl | exact Or.inl rfl | exact Or.inr rfl | exact ⟨_,rfl⟩)) (dD (aj 0)) (fun pins_ m_ fp_ C_ s_ H_=>(aA (i:=0) (show List.Nodup ((["_law_weight"]:List Str)++(["_law_by"]:List Str)) by decide) rfl (Or.inl rfl))) (fun pins_ m_ fp_ C_ s_ H_=>aR) (fun pins_ m_ fp_ C_ s_ H_=>(aX qp (aj 0) (aj 1)))) ak)))) ak))))))))⟩
noncomputable def nP (F__law_draw F__law_row:Fn):aa->DM Fl:=(jw F__law_draw F__law_row).1
abbrev cD:Stmt:=top 30
theorem lL:FnScope ["_law_many", "_law_found", "_law_y"] ["_law_many"] (defScope cD):=bD rfl rfl rfl rfl (by decide +kernel)
@[simp] noncomputable def iC :{b // ∀ {P w K mg base f cdv A outer s H E} (ya:Nn mg "range") (yb:Nn mg "sorted") (hr:Rm 0 A "_law_pairs" cD s f cdv),Ds P w K mg base ["_law_many", "_law_found", "_law_y"] "_law_pairs" cD f cdv A outer s H E b}:=
 ⟨_,fun ya yb hr=>have nd:=lL.nd;(aq (bA (i:=1) nd rfl (Or.inl rfl) (fB ak))
  (aq (dF 0 PassesOwn.leaving rfl (aW rfl ya (ao (aj 0) ak)) (aA (i:=2) nd rfl (Or.inr rfl))
  (az (bA (i:=1) nd rfl (Or.inl rfl) (aX cJ (aj 1) (aU (own:=["_law_x"]) (js:=[2]) (fr:=["_law_y"]) .val rfl (by refine ⟨rfl,by decide +kernel,rfl,bf ?_,fun m_=>aZ rfl,by decide,rfl,aN rfl,aO ?_,aY ?_⟩<;>((repeat' apply And.intro)<;>first | exact True.intro | rfl | exact Or.inl rfl | exact Or.inr rfl | exact ⟨_,rfl⟩)) (aW rfl ya (ao (aj 2) ak)) (fun pins_ m_ fp_ C_ s_ H_=>(aA (i:=0) (show List.Nodup ((["_law_x"]:List Str)++(["_law_y"]:List Str)) by decide) rfl (Or.inl rfl))) (fun pins_ m_ fp_ C_ s_ H_=>aR) (fun pins_ m_ fp_ C_ s_ H_=>(pC (ao (aj 0) (ao (aj 1) ak)))))))))
  (az (aJ (aH vz yb (ao (aj 1) ak))))))⟩
noncomputable def lW :aa->DM Fl:=(iC).1
abbrev bW:Stmt:=top 31
theorem jk:FnScope ["_law_pen", "_law_one", "_law_other", "_law_mine", "_law_yours", "_law_table", "_law_some", "_law_more", "_law_x", "_law_y", "_law_gone"] ["_law_pen", "_law_one", "_law_other"] (defScope bW):=bD rfl rfl rfl rfl (by decide +kernel)
@[simp] noncomputable def fZ (N:Nat) (F__law_draw:Fn):{b // ∀ {P w K mg base f cdv A outer s H E} (ya:DefD P w K mg base 2 "_law_draw" ["_law_pen", "_law_many"] F__law_draw) (yb:Nn mg "len") (yc:Nn mg "list") (yd:Nn mg "min") (ye:Nn mg "range") (yf:Nn mg "sum") (yg:Nn mg "tuple") (hr:Rm 2 A "_law_joining" bW s f cdv),Ds P w K mg base ["_law_pen", "_law_one", "_law_other", "_law_mine", "_law_yours", "_law_table", "_law_some", "_law_more", "_law_x", "_law_y", "_law_gone"] "_law_joining" bW f cdv A outer s H E b}:=
 ⟨_,fun ya yb yc yd ye yf yg hr=>have nd:=jk.nd;(aq (iy (pC (ao (dZ (T := "list") o9 yc (ao (aj 1) ak)) (ao (dZ (T := "list") o9 yc (ao (aj 2) ak)) (ao (aU (own:=["_law_weight"]) (js:=[1]) (fr:=["_law_one"]) .val rfl (by refine ⟨rfl,by decide +kernel,rfl,bf ?_,fun m_=>aZ rfl,by decide,rfl,aN rfl,aO ?_,aY ?_⟩<;>((repeat' apply And.intro)<;>first | exact True.intro | rfl | exact Or.inl rfl | exact Or.inr rfl | exact ⟨_,rfl⟩)) (dD (aj 1)) (fun pins_ m_ fp_ C_ s_ H_=>(aA (i:=0) (show List.Nodup ((["_law_weight"]:List Str)++(["_law_one"]:List Str)) by decide) rfl (Or.inl rfl))) (fun pins_ m_ fp_ C_ s_ H_=>aR) (fun pins_ m_ fp_ C_ s_ H_=>(aX qt (fB (ao aB ak)) (aH call_lenD yb (ao (aj 1) ak))))) ak)))) (fG (n:=3) rfl (bw (aA (i:=3) nd rfl (Or.inr rfl)) (bw (aA (i:=4) nd rfl (Or.inr rfl)) (bw (aA (i:=5) nd rfl (Or.inl rfl)) dW)))))
  (aq (yG N PassesOwn.leaving (bK pK (aH (bN hr.hd) yf (ao (aj 3) ak)) aB) (aq (iz (i:=6) (own:=["_law_x"]) (js:=[3]) (fr:=["_law_mine"]) .val nd rfl (Or.inl rfl) rfl (by refine ⟨rfl,by decide +kernel,rfl,bf ?_,fun m_=>aZ rfl,by decide,rfl,aN rfl,aO ?_,aY ?_⟩<;>((repeat' apply And.intro)<;>first | exact True.intro | rfl | exact Or.inl rfl | exact Or.inr rfl | exact ⟨_,rfl⟩)) (aW rfl ye (ao (aH call_lenD yb (ao (aj 3) ak)) ak)) (fun pins_ m_ fp_ C_ s_ H_=>(aA (i:=0) (show List.Nodup ((["_law_x"]:List Str)++(["_law_mine"]:List Str)) by decide) rfl (Or.inl rfl))) (fun pins_ m_ fp_ C_ s_ H_=>(qe (bK pK (aG aQ (aj 1) (aj 0)) aB))) (fun pins_ m_ fp_ C_ s_ H_=>(aj 0)))
  (aq (iz (i:=7) (own:=["_law_y"]) (js:=[4]) (fr:=["_law_yours"]) .val nd rfl (Or.inl rfl) rfl (by refine ⟨rfl,by decide +kernel,rfl,bf ?_,fun m_=>aZ rfl,by decide,rfl,aN rfl,aO ?_,aY ?_⟩<;>((repeat' apply And.intro)<;>first | exact True.intro | rfl | exact Or.inl rfl | exact Or.inr rfl | exact ⟨_,rfl⟩)) (aW rfl ye (ao (aH call_lenD yb (ao (aj 4) ak)) ak)) (fun pins_ m_ fp_ C_ s_ H_=>(aA (i:=0) (show List.Nodup ((["_law_y"]:List Str)++(["_law_yours"]:List Str)) by decide) rfl (Or.inl rfl))) (fun pins_ m_ fp_ C_ s_ H_=>(qe (bK pK (aG aQ (aj 1) (aj 0)) aB))) (fun pins_ m_ fp_ C_ s_ H_=>(aj 0)))
  (aq (wL (i:=8) (j:=9) rfl nd rfl rfl (by decide) rfl rfl (ao (aG aQ (aj 6) (aF ya hr bh (ao (aj 0) (ao (aH call_lenD yb (ao (aj 6) ak)) ak)))) (ao (aG aQ (aj 7) (aF ya hr bh (ao (aj 0) (ao (aH call_lenD yb (ao (aj 7) ak)) ak)))) ak)) rfl)
  (aq (bA (i:=10) nd rfl (Or.inl rfl) (aH (jX rfl) yd (ao (aG aQ (aj 3) (aj 8)) (ao (aG aQ (aj 4) (aj 9)) ak))))
  (aq (cH (bK (gZ hr.units) (aF ya hr bh (ao (aj 0) (ao aB ak))) aB)
  (az (bA (i:=10) nd rfl (Or.inl rfl) (aX cJ aB (aX oO (aj 10) aB))))
  bH)
  (aq (iy (pC (ao (aX fX (aG aQ (aj 3) (aj 8)) (aj 10)) (ao (aX fX (aG aQ (aj 4) (aj 9)) (aj 10)) ak))) (fG (n:=2) rfl (bw (iw (aj 3) (aj 8) jm) (bw (iw (aj 4) (aj 9) jm) dW))))
  (az (iy (aX cJ (aG aQ (aG aQ (aj 5) (aj 8)) (aj 9)) (aj 10)) (iw (aG aQ (aj 5) (aj 8)) (aj 9) jm))))))))))
  (az (aJ (dZ (T := "tuple") bZ yg (ao (aU (own:=["_law_row_here"]) (js:=[]) (fr:=[]) .val rfl (by refine ⟨rfl,by decide +kernel,rfl,bf ?_,fun m_=>aZ rfl,by decide,rfl,aN rfl,aO ?_,aY ?_⟩<;>((repeat' apply And.intro)<;>first | exact True.intro | rfl | exact Or.inl rfl | exact Or.inr rfl | exact ⟨_,rfl⟩)) (jB (aj 5)) (fun pins_ m_ fp_ C_ s_ H_=>(aA (i:=0) (show List.Nodup ((["_law_row_here"]:List Str)++([]:List Str)) by decide) rfl (Or.inl rfl))) (fun pins_ m_ fp_ C_ s_ H_=>aR) (fun pins_ m_ fp_ C_ s_ H_=>(dZ (T := "tuple") bZ yg (ao (aj 0) ak)))) ak))))))⟩
noncomputable def dU (N:Nat) (F__law_draw:Fn):aa->DM Fl:=(fZ N F__law_draw).1
abbrev bB:Stmt:=top 32
theorem gF:FnScope ["_law_one", "_law_other", "_law_thing", "_law_row_here"] ["_law_one", "_law_other", "_law_thing"] (defScope bB):=bD rfl rfl rfl rfl (by decide +kernel)
@[simp] noncomputable def eF (F__law_whole:Fn):{b // ∀ {P w K mg base f cdv A outer s H E} (ya:DefD P w K mg base 1 "_law_whole" ["_law_thing"] F__law_whole) (yb:Nn mg "isinstance") (yc:Nn mg "len") (yd:Nn mg "list") (ye:Nn mg "range") (yf:Nn mg "sum") (yg:Nn mg "tuple") (hr:Rm 1 A "_law_is_joining" bB s f cdv),Ds P w K mg base ["_law_one", "_law_other", "_law_thing", "_law_row_here"] "_law_is_joining" bB f cdv A outer s H E b}:=
 ⟨_,fun ya yb yc yd ye yf yg hr=>have nd:=gF.nd;(aq (cH (DW.dt (gh (cM (bO (aH b7 yb (ao (aj 2) (ao (fD (T := "tuple") yg) ak))) (fun _=>rfl))) (fH (bK (dX hr.units) (aH call_lenD yc (ao (aj 2) ak)) (aH call_lenD yc (ao (aj 0) ak))))))
  (az (aJ cL))
  bH)
  (aq (dF 0 PassesOwn.leaving rfl (dD (aj 2)) (aA (i:=3) nd rfl (Or.inl rfl))
  (aq (cH (DW.dt (gh (cM (bO (aH b7 yb (ao (aj 3) (ao (fD (T := "tuple") yg) ak))) (fun _=>rfl))) (fH (bK (dX hr.units) (aH call_lenD yc (ao (aj 3) ak)) (aH call_lenD yc (ao (aj 0) ak))))))
  (az (aJ cL))
  bH)
  (az (cH (bK (dX hr.units) (aU (own:=["_law_many"]) (js:=[]) (fr:=[]) .val rfl (by refine ⟨rfl,by decide +kernel,rfl,bf ?_,fun m_=>aZ rfl,by decide,rfl,aN rfl,aO ?_,aY ?_⟩<;>((repeat' apply And.intro)<;>first | exact True.intro | rfl | exact Or.inl rfl | exact Or.inr rfl | exact ⟨_,rfl⟩)) (dD (aj 3)) (fun pins_ m_ fp_ C_ s_ H_=>(aA (i:=0) (show List.Nodup ((["_law_many"]:List Str)++([]:List Str)) by decide) rfl (Or.inl rfl))) (fun pins_ m_ fp_ C_ s_ H_=>(qe (DW.dt (gh (cM (bO (aF ya hr jF (ao (aj 0) ak)) (fun _=>rfl))) (fH (bK uc (aj 0) aB)))))) (fun pins_ m_ fp_ C_ s_ H_=>aB)) (fB ak))
  (az (aJ cL))
  bH))))
  (aq (cH (bK (dX hr.units) (aU (own:=["_law_row_here"]) (js:=[]) (fr:=[]) .val rfl (by refine ⟨rfl,by decide +kernel,rfl,bf ?_,fun m_=>aZ rfl,by decide,rfl,aN rfl,aO ?_,aY ?_⟩<;>((repeat' apply And.intro)<;>first | exact True.intro | rfl | exact Or.inl rfl | exact Or.inr rfl | exact ⟨_,rfl⟩)) (dD (aj 2)) (fun pins_ m_ fp_ C_ s_ H_=>(aA (i:=0) (show List.Nodup ((["_law_row_here"]:List Str)++([]:List Str)) by decide) rfl (Or.inl rfl))) (fun pins_ m_ fp_ C_ s_ H_=>aR) (fun pins_ m_ fp_ C_ s_ H_=>(aH (bN hr.hd) yf (ao (aj 0) ak)))) (dZ (T := "list") gP yd (ao (aj 0) ak)))
  (az (aJ cL))
  bH)
  (az (aJ (iu (gZ hr.units) (aU (own:=["_law_y"]) (js:=[2]) (fr:=["_law_thing"]) .val rfl (by refine ⟨rfl,by decide +kernel,rfl,bf ?_,fun m_=>aZ rfl,by decide,rfl,aN rfl,aO ?_,aY ?_⟩<;>((repeat' apply And.intro)<;>first | exact True.intro | rfl | exact Or.inl rfl | exact Or.inr rfl | exact ⟨_,rfl⟩)) (aW rfl ye (ao (aH call_lenD yc (ao (aj 0) ak)) ak)) (fun pins_ m_ fp_ C_ s_ H_=>(aA (i:=0) (show List.Nodup ((["_law_y"]:List Str)++(["_law_thing"]:List Str)) by decide) rfl (Or.inr rfl))) (fun pins_ m_ fp_ C_ s_ H_=>aR) (fun pins_ m_ fp_ C_ s_ H_=>(aH (bN hr.hd) yf (ao (aU (own:=["_law_row_here"]) (js:=[0]) (fr:=["_law_y"]) .val rfl (by refine ⟨rfl,by decide +kernel,rfl,bf ?_,fun m_=>aZ rfl,by decide,rfl,aN rfl,aO ?_,aY ?_⟩<;>((repeat' apply And.intro)<;>first | exact True.intro | rfl | exact Or.inl rfl | exact Or.inr rfl | exact ⟨_,rfl⟩)) (dD (aj 1)) (fun pins_ m_ fp_ C_ s_ H_=>(aA (i:=0) (show List.Nodup ((["_law_row_here"]:List Str)++(["_law_y"]:List Str)) by decide) rfl (Or.inl rfl))) (fun pins_ m_ fp_ C_ s_ H_=>aR) (fun pins_ m_ fp_ C_ s_ H_=>(aG aQ (aj 0) (aj 1)))) ak)))) (dZ (T := "list") gP yd (ao (aj 1) ak))))))))⟩
noncomputable def gK (F__law_whole:Fn):aa->DM Fl:=(eF F__law_whole).1
abbrev bV:Stmt:=top 33
theorem jj:FnScope ["_law_rows_here", "_law_thing", "_law_pairs_here"] ["_law_rows_here", "_law_thing"] (defScope bV):=bD rfl rfl rfl rfl (by decide +kernel)
@[simp] noncomputable def jJ (F__law_pairs F__law_is_joining:Fn):{b // ∀ {P w K mg base f cdv A outer s H E} (ya:DefD P w K mg base 1 "_law_pairs" ["_law_many"] F__law_pairs) (yb:DefD P w K mg base 2 "_law_is_joining" ["_law_one", "_law_other", "_law_thing"] F__law_is_joining) (yc:Nn mg "all") (yd:Nn mg "isinstance") (ye:Nn mg "len") (yf:Nn mg "tuple") (yg:Nn mg "zip") (hr:Rm 2 A "_law_is_rule" bV s f cdv),Ds P w K mg base ["_law_rows_here", "_law_thing", "_law_pairs_here"] "_law_is_rule" bV f cdv A outer s H E b}:=
 ⟨_,fun ya yb yc yd ye yf yg hr=>have nd:=jj.nd;(aq (bA (i:=2) nd rfl (Or.inl rfl) (aF ya hr bh (ao (aH call_lenD ye (ao (aj 0) ak)) ak)))
  (aq (cH (DW.dt (gh (cM (bO (aH b7 yd (ao (aj 1) (ao (fD (T := "tuple") yf) ak))) (fun _=>rfl))) (fH (bK (dX hr.units) (aH call_lenD ye (ao (aj 1) ak)) (aH call_lenD ye (ao (aj 2) ak))))))
  (az (aJ cL))
  bH)
  (az (aJ (aH (gq hr.hd) yc (ao (aU (own:=["_law_one", "_law_x", "_law_y"]) (js:=[0]) (fr:=["_law_rows_here"]) .val rfl (by refine ⟨rfl,by decide +kernel,rfl,bf ?_,fun m_=>aZ rfl,by decide,rfl,aN rfl,aO ?_,aY ?_⟩<;>((repeat' apply And.intro)<;>first | exact True.intro | rfl | exact Or.inl rfl | exact Or.inr rfl | exact ⟨_,rfl⟩)) (sV rfl yg (ao (aj 2) (ao (aj 1) ak))) (fun pins_ m_ fp_ C_ s_ H_=>(fG (n:=2) rfl (bw (fG (n:=2) rfl (bw (aA (i:=1) (show List.Nodup ((["_law_one", "_law_x", "_law_y"]:List Str)++(["_law_rows_here"]:List Str)) by decide) rfl (Or.inl rfl)) (bw (aA (i:=2) (show List.Nodup ((["_law_one", "_law_x", "_law_y"]:List Str)++(["_law_rows_here"]:List Str)) by decide) rfl (Or.inl rfl)) dW))) (bw (aA (i:=0) (show List.Nodup ((["_law_one", "_law_x", "_law_y"]:List Str)++(["_law_rows_here"]:List Str)) by decide) rfl (Or.inl rfl)) dW)))) (fun pins_ m_ fp_ C_ s_ H_=>aR) (fun pins_ m_ fp_ C_ s_ H_=>(aF yb hr jF (ao (aG aQ (aj 3) (aj 1)) (ao (aG aQ (aj 3) (aj 2)) (ao (aj 0) ak)))))) ak))))))⟩
noncomputable def jz (F__law_pairs F__law_is_joining:Fn):aa->DM Fl:=(jJ F__law_pairs F__law_is_joining).1
abbrev cg:Stmt:=top 34
theorem jM:FnScope ["_law_table"] ["_law_table"] (defScope cg):=bD rfl rfl rfl rfl (by decide +kernel)
@[simp] noncomputable def lJ :{b // ∀ {P w K mg base f cdv A outer s H E} (ya:Nn mg "len") (yb:Nn mg "range") (yc:Nn mg "sum") (hr:Rm 0 A "_law_parted" cg s f cdv),Ds P w K mg base ["_law_table"] "_law_parted" cg f cdv A outer s H E b}:=
 ⟨_,fun ya yb yc hr=>have nd:=jM.nd;(az (aJ (aX fX (aH (bN hr.hd) yc (ao (aU (own:=["_law_row_here"]) (js:=[]) (fr:=[]) .val rfl (by refine ⟨rfl,by decide +kernel,rfl,bf ?_,fun m_=>aZ rfl,by decide,rfl,aN rfl,aO ?_,aY ?_⟩<;>((repeat' apply And.intro)<;>first | exact True.intro | rfl | exact Or.inl rfl | exact Or.inr rfl | exact ⟨_,rfl⟩)) (dD (aj 0)) (fun pins_ m_ fp_ C_ s_ H_=>(aA (i:=0) (show List.Nodup ((["_law_row_here"]:List Str)++([]:List Str)) by decide) rfl (Or.inl rfl))) (fun pins_ m_ fp_ C_ s_ H_=>aR) (fun pins_ m_ fp_ C_ s_ H_=>(aH (bN hr.hd) yc (ao (aj 0) ak)))) ak)) (aH (bN hr.hd) yc (ao (aU (own:=["_law_x"]) (js:=[0]) (fr:=["_law_table"]) .val rfl (by refine ⟨rfl,by decide +kernel,rfl,bf ?_,fun m_=>aZ rfl,by decide,rfl,aN rfl,aO ?_,aY ?_⟩<;>((repeat' apply And.intro)<;>first | exact True.intro | rfl | exact Or.inl rfl | exact Or.inr rfl | exact ⟨_,rfl⟩)) (aW rfl yb (ao (aH call_lenD ya (ao (aj 0) ak)) ak)) (fun pins_ m_ fp_ C_ s_ H_=>(aA (i:=0) (show List.Nodup ((["_law_x"]:List Str)++(["_law_table"]:List Str)) by decide) rfl (Or.inl rfl))) (fun pins_ m_ fp_ C_ s_ H_=>aR) (fun pins_ m_ fp_ C_ s_ H_=>(aG aQ (aG aQ (aj 1) (aj 0)) (aj 0)))) ak)))))⟩
noncomputable def lD :aa->DM Fl:=(lJ).1
abbrev cF:Stmt:=top 35
theorem lM:FnScope ["_law_pen", "_law_rows_here", "_law_reply", "_law_table", "_law_x", "_law_y", "_law_more", "_law_turn"] ["_law_pen", "_law_rows_here", "_law_reply"] (defScope cF):=bD rfl rfl rfl rfl (by decide +kernel)
@[simp] noncomputable def iD (F__law_is_rule F__law_pairs F__law_parted F__law_joining:Fn):{b // ∀ {P w K mg base f cdv A outer s H E} (ya:DefD P w K mg base 3 "_law_is_rule" ["_law_rows_here", "_law_thing"] F__law_is_rule) (yb:DefD P w K mg base 1 "_law_pairs" ["_law_many"] F__law_pairs) (yc:DefD P w K mg base 1 "_law_parted" ["_law_table"] F__law_parted) (yd:DefD P w K mg base 3 "_law_joining" ["_law_pen", "_law_one", "_law_other"] F__law_joining) (ye:Nn mg "len") (yf:Nn mg "max") (yg:Nn mg "range") (yh:Nn mg "sum") (yi:Nn mg "zip") (hr:Rm 3 A "_law_right" cF s f cdv),Ds P w K mg base ["_law_pen", "_law_rows_here", "_law_reply", "_law_table", "_law_x", "_law_y", "_law_more", "_law_turn"] "_law_right" cF f cdv A outer s H E b}:=
 ⟨_,fun ya yb yc yd ye yf yg yh yi hr=>have nd:=lM.nd;(aq (cH (cM (bO (aF ya hr bh (ao (aj 1) (ao (aj 2) ak))) (fun _=>rfl)))
  (az (aJ cL))
  bH)
  (aq (dF 0 PassesOwn.leaving rfl (sV rfl yi (ao (aF yb hr bh (ao (aH call_lenD ye (ao (aj 1) ak)) ak)) (ao (aj 2) ak))) (fG (n:=2) rfl (bw (fG (n:=2) rfl (bw (aA (i:=4) nd rfl (Or.inr rfl)) (bw (aA (i:=5) nd rfl (Or.inr rfl)) dW))) (bw (aA (i:=3) nd rfl (Or.inl rfl)) dW)))
  (aq (bA (i:=6) nd rfl (Or.inl rfl) (aH (bN hr.hd) yh (ao (aU (own:=["_law_at"]) (js:=[1,4,5]) (fr:=["_law_rows_here", "_law_x", "_law_y"]) .val rfl (by refine ⟨rfl,by decide +kernel,rfl,bf ?_,fun m_=>aZ rfl,by decide,rfl,aN rfl,aO ?_,aY ?_⟩<;>((repeat' apply And.intro)<;>first | exact True.intro | rfl | exact Or.inl rfl | exact Or.inr rfl | exact ⟨_,rfl⟩)) (aW rfl yg (ao (aH call_lenD ye (ao (aj 1) ak)) ak)) (fun pins_ m_ fp_ C_ s_ H_=>(aA (i:=0) (show List.Nodup ((["_law_at"]:List Str)++(["_law_rows_here", "_law_x", "_law_y"]:List Str)) by decide) rfl (Or.inl rfl))) (fun pins_ m_ fp_ C_ s_ H_=>aR) (fun pins_ m_ fp_ C_ s_ H_=>(aH (ph rfl) yf (ao aB (ao (aX fX (aG aQ (aG aQ (aj 1) (aj 2)) (aj 0)) (aG aQ (aG aQ (aj 1) (aj 3)) (aj 0))) ak))))) ak)))
  (aq (cH (bK (dX hr.units) (aF yc hr bh (ao (aj 3) ak)) (aj 6))
  (az (aJ cL))
  bH)
  (az (dF 0 PassesOwn.leaving rfl (aW rfl yg (ao aB ak)) (aA (i:=7) nd rfl (Or.inl rfl))
  (az (cH (bK uc (aF yc hr bh (ao (aF yd hr bh (ao (aj 0) (ao (aG aQ (aj 1) (aj 4)) (ao (aG aQ (aj 1) (aj 5)) ak)))) ak)) (aj 6))
  (az (aJ cL))
  bH)))))))
  (az (aJ cL))))⟩
noncomputable def lX (F__law_is_rule F__law_pairs F__law_parted F__law_joining:Fn):aa->DM Fl:=(iD F__law_is_rule F__law_pairs F__law_parted F__law_joining).1
abbrev lq:Stmt:=top 36
theorem xQ:FnScope ["_law_script", "_law_cell", "_law_pen", "_law_turn", "_law_rows_here", "_law_walk", "_law_lap", "_law_reply"] ["_law_script"] (defScope lq):=bD rfl rfl rfl rfl (by decide +kernel)
@[simp] noncomputable def vP (F__law_cell_at F__law_pen_of F__law_rows F_best_rule F_is_rule F__law_right F_Walk:Fn):{b // ∀ {P w K mg base f cdv A outer s H E} (ya:DefD P w K mg base 1 "_law_cell_at" ["_law_script", "_law_k"] F__law_cell_at) (yb:DefD P w K mg base 1 "_law_pen_of" ["_law_cell"] F__law_pen_of) (yc:DefD P w K mg base 4 "_law_rows" ["_law_pen", "_law_top"] F__law_rows) (yd:DefD P w K mg base 3 "best_rule" ["walk"] F_best_rule) (ye:DefD P w K mg base 6 "is_rule" ["walk", "thing"] F_is_rule) (yf:DefD P w K mg base 4 "_law_right" ["_law_pen", "_law_rows_here", "_law_reply"] F__law_right) (yg:ClsD P w K mg base 5 "Walk" F_Walk) (yh:Nn mg "range") (hr:Rm 6 A "law" lq s f cdv),Ds P w K mg base ["_law_script", "_law_cell", "_law_pen", "_law_turn", "_law_rows_here", "_law_walk", "_law_lap", "_law_reply"] "law" lq f cdv A outer s H E b}:=
 ⟨_,fun ya yb yc yd ye yf yg yh hr=>have nd:=xQ.nd;(aq (dF 0 PassesOwn.leaving rfl (jB (aX cJ (fB (ao (aF ya hr bh (ao (aj 0) (ao aB ak))) ak)) (wI (aj 0) (uL aB) (uL aB)))) (aA (i:=1) nd rfl (Or.inl rfl))
  (aq (bA (i:=2) nd rfl (Or.inl rfl) (aF yb hr bh (ao (aj 1) ak)))
  (az (dF 0 PassesOwn.leaving rfl (aW rfl yh (ao aB ak)) (aA (i:=3) nd rfl (Or.inl rfl))
  (aq (bA (i:=4) nd rfl (Or.inl rfl) (aF yc hr bh (ao (aj 2) (ao aB ak))))
  (aq (bA (i:=5) nd rfl (Or.inl rfl) (zT yg hr bh (ao (aj 4) ak)))
  (az (dF 0 PassesOwn.leaving rfl (aW rfl yh (ao aB ak)) (aA (i:=6) nd rfl (Or.inl rfl))
  (aq (bA (i:=7) nd rfl (Or.inl rfl) (aF yd hr bh (ao (aj 5) ak)))
  (az (cH (DW.dt (gh (cM (bO (aF yf hr bh (ao (aj 2) (ao (aj 4) (ao (aj 7) ak)))) (fun _=>rfl))) (fH (bK yR (aF ye hr bh (ao (aj 5) (ao (aj 7) ak))) cL))))
  (az (aJ cL))
  bH)))))))))))
  (az (aJ cL)))⟩
noncomputable def zu (F__law_cell_at F__law_pen_of F__law_rows F_best_rule F_is_rule F__law_right F_Walk:Fn):aa->DM Fl:=(vP F__law_cell_at F__law_pen_of F__law_rows F_best_rule F_is_rule F__law_right F_Walk).1
end K
namespace K
open PySem L2 L3 N10
noncomputable def v7:=aL 1 1 o7
noncomputable def uC:=aL 2 2 (lF v7)
theorem Cq (n:Nat):v7 [nD n]=pure (.bl true):=by
 have a:(rd (eE [nD n,.ty "int"]):DM D)=pure (.bl true):=fL (t := "int") (fun _=>rfl) (by decide)
 have b:(rd (eE [nD n,.ty "bool"]):DM D)=pure (.bl false):=fL (t := "int") (fun _=>rfl) (by decide)
 simp [v7,o7,a,b]
theorem Bw {l:List Nat} (hl:l.length≤1000):uC [nT l,.int (l.length:Int)]=pure (.bl true):=by
 have a:(rd (eE [nT l,.ty "tuple"]):DM D)=pure (.bl true):=fL (t := "tuple") (fun _=>rfl) (by decide)
 have ln:(rd (bR [nT l]):DM D)=pure (.int (l.length:Int)):=by simp [nT]
 simp [uC,lF,a,ln,aM,gk]
 show (eX (bu _ _ _ (l.map nD) _ _) >>= _)=_
 rw [DK (fun _=>true) (fun _=>.bl true) (by simpa using Nat.le_trans hl (by decide)) (fun _ _=>rfl) (fun d hd _=>?_) (k':=fun l=>rd (p8 [.lst l])) (fun _=>rfl)]
 ·have:((l.map nD).filter (fun _=>true)).map (fun _=>D.bl true)=(l.map fun _=>true).map D.bl:=by
   rw [List.filter_eq_self.mpr (fun _ _=>rfl),List.map_map,List.map_map];rfl
  have q:(l.map fun _=>true).all id=true:=by rw [List.all_eq_true];intro x hx;obtain ⟨_,_,rfl⟩:=List.mem_map.mp hx;rfl
  rw [this,xH,q]
 ·obtain ⟨n,_,rfl⟩:=List.mem_map.mp hd
  have:=Cq n
  unfold nD at this ⊢
  simp [this]
noncomputable def rO:=aL 2 2 fW
theorem By (cs:List Int) (k:Nat):∃ c:Int,rO [.scr cs,nD k]=pure (.int c):=by
 by_cases h:k<cs.length
 ·have e:decide ((k:Int)<(cs.length:Int))=true:=decide_eq_true (by omega)
  have ix:(rd (dI (.scr cs) (.int (k:Int))):DM D)=pure (.int cs[k]):=dG fun M=>by
   show (atI cs (k:Int)).map _=_
   rw [lV (List.getElem?_eq_getElem h)];rfl
  refine ⟨cs[k],?_⟩
  simp [rO,fW,nD,e,ix,h]
 ·have e:decide ((k:Int)<(cs.length:Int))=false:=decide_eq_false (by omega)
  refine ⟨0,?_⟩
  simp [rO,fW,nD,e,h]
theorem aD {f g:aa->DM Fl}{δ:aa}{M:Mo}{Q:Fl->Mo->Prop} (h:∀ K:Fl->DM Fl,(∀ δ',K (.nx δ')=g δ')->Rn (f δ >>= K) M Q):Rn (vU f g δ) M Q:=by
 have:=h (fun r=>match r with | .nx δ'=>g δ' | r=>Pure.pure r) (fun _=>rfl)
 exact this
structure WK (R:List (List Nat)) (W:Nat):Prop where
 n1:1≤R.length
 n25:R.length≤25
 row:∀ r∈R,r.length=R.length
 sum:∀ r∈R,r.sum=W
 w1:1≤W
theorem WK.head {R:List (List Nat)}{W:Nat} (h:WK R W):gr R 0∈R:=gr_mem (by have:=h.n1;omega)
noncomputable def nF:=aL 2 2 (jW uC)
noncomputable def v4:=aL 1 2 (iU nF)
theorem uF {l:List Nat}{n:Nat} (h:l.length=n) (hl:n≤1000):uC [nT l,nD n]=pure (.bl true):=by
 subst h
 exact Bw hl
theorem ik (n:Nat):(rd (p8 [.lst (List.replicate n (.bl true))]):DM D)=pure (.bl true):=by
 have:=xH (List.replicate n true)
 rw [List.map_replicate] at this
 rw [this];simp
theorem mH {α:Type} (l:List α) (d:D):(l.map fun _=>d)=List.replicate l.length d:=List.map_const' ..
theorem Bt {R:List (List Nat)}{W:Nat} (h:WK R W):nF [nM R,nD R.length]=pure (.bl true):=by
 have:=h.n25
 simp [nF,jW,xM,xP,iG,xJ,aM,gk]
 rw [cZ nT (fun _=>.bl true) (by omega) (fun r hr=>by simp [uF (h.row r hr) (by omega)])]
 rw [au,mH,ik]
theorem BL {R:List (List Nat)}{W:Nat} (h:WK R W):v4 [nM R]=pure (.bl true):=by
 have h1:=h.n1
 have h2:=h.n25
 have e1:(rd (wZ (.int 1) (nD R.length)):DM D)=pure (.bl true):=by rw [show D.int 1=nD 1 from rfl,xO,decide_eq_true h1]
 have e2:(rd (wZ (nD R.length) (.int 25)):DM D)=pure (.bl true):=by rw [show D.int 25=nD 25 from rfl,xO,decide_eq_true h2]
 have e3:(rd (wO (nD W) (.int 1)):DM D)=pure (.bl true):=by rw [show D.int 1=nD 1 from rfl,xK,decide_eq_true h.w1]
 have e4:∀ r∈R,(rd (gA (nD r.sum) (nD W)):DM D)=pure (.bl true):=fun r hr=>by rw [um,h.sum r hr];simp
 simp [v4,iU,xM,xP,e1,e2,Bt h,xN (R:=R) (by omega),h.sum _ h.head]
 simp [e3,xJ,aM,gk]
 rw [cZ nT (fun _=>.bl true) (by omega) (fun r hr=>by simp [e4 r hr])]
 rw [au,mH,ik]
noncomputable def lB (R:List (List Nat)) (W:Nat):D:=.obj "Walk" ["rows", "whole"] [nM R,nD W]
noncomputable def Fin:=aL 2 2 (iT v4)
theorem u6 {M:Mo}{ns:List Str}{vs:List D}{f:Str}{d:D} (hl:ns.length=vs.length) (hz:ns.length<1000):rK "Walk" f (.ref M.length) d (M++[.ins "Walk" ns vs])=some (.ok (),M++[.ins "Walk" (putN f ns) (iB f d ns vs)]):=by
 unfold rK
 simp [hl]
 omega
theorem Ca {R:List (List Nat)}{W:Nat} (h:WK R W) (M:Mo):Fin (.ref M.length::[nM R]) (M++[.ins "Walk" [] []])=some (.ok .non,M++[.ins "Walk" ["rows", "whole"] [nM R,nD W]]):=by
 have h1:=h.n1
 have go:Rn (Fin (.ref M.length::[nM R])) (M++[.ins "Walk" [] []]) fun d M'=>d=.non∧M'=M++[.ins "Walk" ["rows", "whole"] [nM R,nD W]]:=by
  simp [Fin,iT,BL h,xN (R:=R) (by omega)]
  refine Rn.run (u6 rfl (by decide)) ?_
  rw [h.sum _ h.head]
  refine Rn.run (u6 rfl (by decide)) ?_
  exact Rn.pure ⟨rfl,rfl⟩
 obtain ⟨d,M',e,rfl,rfl⟩:=go
 exact e
open Classical in
noncomputable def rN (ds:List D):DM D:=if h:∃ p:List (List Nat)×Nat,WK p.1 p.2∧ds=[nM p.1] then pure (lB (choose h).1 (choose h).2) else stuck
theorem Dr {R:List (List Nat)}{W:Nat} (h:WK R W):rN [nM R]=pure (lB R W):=by
 have q:∃ p:List (List Nat)×Nat,WK p.1 p.2∧[nM R]=[nM p.1]:=⟨(R,W),h,rfl⟩
 unfold rN
 rw [dif_pos q]
 obtain ⟨a,b⟩:=Classical.choose_spec q
 generalize Classical.choose q=p at a b
 have e:R=p.1:=CN (by simpa using b)
 have w:W=p.2:=by
  have:=h.sum _ h.head
  rw [←this,e]
  exact a.sum _ a.head
 rw [←e,←w]
theorem Dt:∀ ds M r',rN ds M=some r'->Bo "Walk" Fin ds M r':=by
 intro ds M r' e
 unfold rN at e
 split at e
 ·rename_i q
  obtain ⟨a,b⟩:=Classical.choose_spec q
  generalize Classical.choose q=p at a b e
  subst b
  cases e
  refine .inl ⟨["rows", "whole"],[nM p.1,nD p.2],Ca a M,fun d hd=>?_,rfl⟩
  rcases List.mem_cons.mp hd with rfl | hd
  ·exact .inl (by simp)
  ·exact .inr ⟨p.2,by simpa [nD] using hd⟩
 ·cases e
theorem tu (R:List (List Nat)) (W:Nat):(rd (vA "Walk" "rows" (lB R W)):DM D)=pure (nM R):=dG fun M=>by simp [vA,lB]
end K
set_option exponentiation.threshold 2000
namespace K
open PySem L2 L3 N10
theorem jG {m:DM D}{v:D} (h:∀ M,Rn m M fun d M'=>d=v∧M'=M):m=pure v:=by
 funext M
 obtain ⟨d,M',e,rfl,rfl⟩:=h M
 exact e
theorem Cd (b:Bool):(rd (vG [.bl b]):DM D)=pure (nD (if b then 1 else 0)):=by cases b<;>rfl
theorem Az {l:List Nat}{i v:Nat} (h:i<l.length):(l.set i v).sum + ga l i=l.sum + v:=by
 induction l generalizing i with
 | nil=>simp at h
 | cons a l ih=>
   cases i with
   | zero=>simp [ga];omega
   | succ i=>
     have:=ih (i:=i) (by simpa using h)
     rw [List.set_cons_succ,List.sum_cons,List.sum_cons]
     have e:ga (a::l) (i + 1)=ga l i:=rfl
     rw [e];omega
theorem kZ {n j:Nat}{d:D} (h:((List.range n).map nD)[j]?=some d):j<n∧d=nD j:=by
 have hj:j<n:=by
  have:=(List.getElem?_eq_some_iff.mp h).1
  simpa using this
 rw [List.getElem?_map,List.getElem?_range hj] at h
 exact ⟨hj,(Option.some.inj h).symm⟩
theorem pR {l:List Nat}{i:Nat} (h:i<l.length):(rd (dI (.lst (l.map nD)) (nD i)):DM D)=pure (nD (ga l i)):=rG (i:=i) (by rw [List.getElem?_map,List.getElem?_eq_getElem h,vC h];rfl)
theorem fF {k:Nat}{tg:D->aa->DM aa}{fb:aa->DM Fl}{l:List D}{δ:aa}:vB k tg fb (.fix l) δ=forL tg fb l δ:=rfl
theorem lA {fg:D->aa->DM aa}{ft:aa->DM Bool}{fb:aa->List D->DM (aa×List D)}{ds:List D}{δ:aa}{l:List D}:cI fg ft fb (.fix ds) δ l=bu fg ft fb ds δ l:=rfl
theorem Aw {a b:Nat} (ha:a<2 ^ 62) (hb:b<2 ^ 62):vR [nD a,nD b]=some (.fix ((List.range (b - a)).map fun k=>nD (a + k))):=by
 have e:∀ x:Nat,x<2 ^ 62->lg (x:Int)=true:=fun x h=>by unfold lg;simp;omega
 have e2:((b:Int) - (a:Int)).toNat=b - a:=by omega
 simp [vR,nD,e a ha,e b hb,e2,kY]
theorem zP {f g:aa->DM Fl}{δ:aa}{M:Mo}{Q:Fl->Mo->Prop} (h:∀ K:Fl->DM Fl,(∀ δ',K (.nx δ')=g δ')->(∀ d,K (.rt d)=Pure.pure (.rt d))->Rn (f δ >>= K) M Q):Rn (vU f g δ) M Q:=by
 have:=h (fun r=>match r with | .nx δ'=>g δ' | r=>Pure.pure r) (fun _=>rfl) (fun _=>rfl)
 exact this
noncomputable def wj:=aL 1 1 nO
theorem xq {s:Nat} (h:s<2 ^ 40):∃ t:Nat,t<2147483629∧wj [nD s]=pure (nD t):=by
 refine ⟨(((s + 7919) % 2147483647) * ((s + 7919) % 2147483647) + 48271 * ((s + 7919) % 2147483647) + 12345) % 2147483629,Nat.mod_lt _ (by decide),?_⟩
 have a1:(rd (eU (nD s) (.int 7919)):DM D)=pure (nD (s + 7919)):=gB s 7919
 have a2:(rd (oK (nD (s + 7919)) (.int 2147483647)):DM D)=pure (nD ((s + 7919) % 2147483647)):=jL (b:=2147483647) (by decide)
 have lt:=Nat.mod_lt (s + 7919) (show 2147483647 > 0 by decide)
 generalize (s + 7919) % 2147483647=x at a2 lt
 have a3:(rd (tZ (nD x) (nD x)):DM D)=pure (nD (x * x)):=ur (by omega)
 have a4:(rd (tZ (.int 48271) (nD x)):DM D)=pure (nD (48271 * x)):=ur (a:=48271) (by omega)
 have a5:∀ a b:Nat,(rd (eU (nD a) (nD b)):DM D)=pure (nD (a + b)):=fun a b=>gB a b
 have a6:(rd (eU (nD (x * x + 48271 * x)) (.int 12345)):DM D)=pure (nD (x * x + 48271 * x + 12345)):=gB _ 12345
 have a7:(rd (oK (nD (x * x + 48271 * x + 12345)) (.int 2147483629)):DM D)=pure (nD ((x * x + 48271 * x + 12345) % 2147483629)):=jL (b:=2147483629) (by decide)
 simp [wj,nO,a1,a2,a3,a4,a5,a6,a7]
noncomputable def cV (p:Nat) (M:Mo):Prop:=∃ a b c:Nat,c<2 ^ 40∧M[p]?=some (.lst [nD a,nD b,nD c])
theorem cV.lt {p:Nat}{M:Mo} (h:cV p M):p<M.length:=by obtain ⟨a,b,c,_,e⟩:=h;exact (List.getElem?_eq_some_iff.mp e).1
theorem cV.sb {p q:Nat}{M M':Mo} (h:cV p M) (s:Sb q M M') (hq:p≠q):cV p M':=by obtain ⟨a,b,c,hc,e⟩:=h;exact ⟨a,b,c,hc,s.at hq e⟩
noncomputable def rT:=aL 1 2 lE
theorem Am (c:Int) (M:Mo):Rn (rT [.int c]) M fun d M'=>d=.ref M.length∧cV M.length M':=by
 unfold rT lE gJ;dsimp only
 refine Rn.call rfl ?_
 refine aD fun K hK=>?_
 have p18:(rd (vO (.int 10) (.int 18)):DM D)=pure (.int 1000000000000000000):=by rw [zJ (by decide)];rfl
 have st:cA 2 [D.int c]=[some (.int c),none]:=rfl
 rw [st]
 simp
 have en:D.int (if c < -c then -c else c)=nD (if c < -c then -c else c).toNat:=by
  unfold nD
  congr 1
  split<;>omega
 rw [en]
 generalize (if c < -c then -c else c).toNat=n
 rw [hK];clear hK K
 have ge:(rd (wO (nD n) (.int 1000000000000000000)):DM D)=pure (.bl (decide (1000000000000000000≤n))):=xK n 1000000000000000000
 have md:(rd (oK (nD n) (.int 1000003)):DM D)=pure (nD (n % 1000003)):=jL (b:=1000003) (by decide)
 simp [p18,ge,Cd,md]
 refine Rn.eQ (by simp) ?_
 have lt:=Nat.mod_lt n (show 1000003 > 0 by decide)
 exact Rn.pure ⟨_,rfl,rfl,n,(if 1000000000000000000≤n then 1 else 0),n % 1000003,by omega,by simp⟩
noncomputable def lO:=aL 2 3 (nJ wj)
theorem eO {p:Nat}{M:Mo}{m:Nat} (h:cV p M) (h0:0<m) (h1:m<2 ^ 60):Rn (lO [.ref p,nD m]) M fun d M'=>∃ t:Nat,t<m∧d=nD t∧cV p M'∧Sb p M M':=by
 obtain ⟨a,b,c,hc,e⟩:=h
 have hp:=(List.getElem?_eq_some_iff.mp e).1
 unfold lO nJ ju;dsimp only
 refine Rn.call rfl ?_
 have st:cA 3 [D.ref p,nD m]=[some (.ref p),some (nD m),none]:=rfl
 rw [st]
 have i0:dI (.ref p) (.int 0) M=some (nD a):=fJ (i:=0) e rfl
 have i1:dI (.ref p) (.int 1) M=some (nD b):=fJ (i:=1) e rfl
 have i2:dI (.ref p) (.int 2) M=some (nD c):=fJ (i:=2) e rfl
 have eb:(rd (gA (nD b) (.int 1)):DM D)=pure (.bl (decide (b=1))):=um b 1
 have ga:(rd (qL (nD a) (.int 0)):DM D)=pure (.bl (decide (0<a))):=uo a 0
 refine zP fun K hK hR=>?_
 have rest:Rn (K (.nx [some (.ref p),some (nD m),none])) M fun r M'=>∃ d,r=.rt d∧∃ t:Nat,t<m∧d=nD t∧cV p M'∧Sb p M M':=by
  rw [hK];clear hK hR K
  refine aD fun K hK=>?_
  simp
  refine Rn.bindRd _ i2 ?_
  obtain ⟨t1,l1,e1⟩:=xq hc
  have a7:(rd (eU (nD t1) (.int 7)):DM D)=pure (nD (t1 + 7)):=gB t1 7
  obtain ⟨t2,l2,e2⟩:=xq (s:=t1 + 7) (by omega)
  simp only [e1,au,a7,e2]
  refine Rn.run (dY (i:=2) e (by simp)) ?_
  rw [hK];clear hK K
  simp
  have at2:(M.set p (.lst [nD a,nD b,nD t2]))[p]?=some (.lst [nD a,nD b,nD t2]):=List.getElem?_set_self hp
  refine Rn.bindRd (nD t2) (fJ (i:=2) at2 rfl) ?_
  have dv:(rd (pD (nD t2) (.int 64)):DM D)=pure (nD (t2 / 64)):=uh (b:=64) (by decide) (by decide)
  simp [dv,jL (a:=t2 / 64) (b:=m) h0]
  exact Rn.pure ⟨_,rfl,_,Nat.mod_lt _ h0,rfl,⟨a,b,t2,by omega,at2⟩,Sb.set⟩
 simp
 refine Rn.bindRd _ i1 ?_
 simp only [eb,au,pP]
 by_cases hb:b=1
 ·simp [hb]
  refine Rn.bindRd _ i0 ?_
  simp only [ga,au,pP]
  by_cases ha:0<a
  ·simp [ha]
   refine Rn.bindRd _ i0 ?_
   simp [jL (a:=a) (b:=m) h0]
   refine Rn.bindRd _ i0 ?_
   simp [uh (a:=a) (b:=m) h0 (Nat.lt_trans h1 (by decide))]
   refine Rn.run (dY (i:=0) e (by simp)) ?_
   have at2:(M.set p (.lst [nD (a / m),nD b,nD c]))[p]?=some (.lst [nD (a / m),nD b,nD c]):=List.getElem?_set_self hp
   simp
   rw [hR]
   exact Rn.pure ⟨_,rfl,_,Nat.mod_lt _ h0,rfl,⟨_,b,c,hc,at2⟩,Sb.set⟩
  ·simp [ha]
   exact rest
 ·simp [hb]
  exact rest
noncomputable def v9:=aL 2 10 iV
structure Ex (M M':Mo):Prop where
 le:M.length≤M'.length
 keep:∀ q,q<M.length->M'[q]?=M[q]?
noncomputable def qC (n:Nat):List D:=(List.replicate n 0).map nD
noncomputable def zp (M0:Mo) (n:Nat) (rest:aa) (i:Nat) (δ:aa) (l:List D) (M:Mo):Prop:=(∃ z,δ=z::rest)∧l=(List.range i).map (fun x=>D.ref (M0.length + x))∧M.length=M0.length + i∧Ex M0 M∧∀ x,x<i->M[M0.length + x]?=some (.lst (qC n))
theorem yX {n:Nat}{M:Mo} (hn:n≤25) {x:Option D}:Rn (bu (gN 0) (fun _=>pure true) (aV fun δ=>opt δ[1]?.join >>= fun y=>vK (.lst [.int 0]) y) ((List.range n).map nD) (x::[some (nD n)]) []) M fun p M'=>zp M n [some (nD n)] n p.1 p.2 M':=by
 have:=cN (fg:=gN 0) (ft:=fun _=>pure true) (fb:=aV fun δ=>opt δ[1]?.join >>= fun y=>vK (.lst [.int 0]) y) (zp M n [some (nD n)]) ((List.range n).map nD) 0 (x::[some (nD n)]) [] M ⟨⟨x,rfl⟩,rfl,rfl,⟨Nat.le_refl _,fun _ _=>rfl⟩,fun x h=>by omega⟩ (fun j d δ l M1 hj hI=>?_)
 ·simpa using this
 ·obtain ⟨⟨z,rfl⟩,rfl,hl,he,hr⟩:=hI
  have hj':j<n:=by
   have:=(List.getElem?_eq_some_iff.mp hj).1
   simpa using this
  have lt:j<sizeLine:=by show j<2 ^ 24;omega
  simp [aV]
  refine oM (by omega) ?_
  simp [lt]
  refine Rn.pure ⟨⟨_,rfl⟩,?_,by simp [hl];omega,⟨by simp;have:=he.le;omega,fun q hq=>by rw [List.getElem?_append_left (by omega)];exact he.keep q hq⟩,fun x hx=>?_⟩
  ·rw [List.range_succ,List.map_append,hl];simp
  ·by_cases e:x=j
   ·subst e
    rw [show M.length + x=M1.length by omega,List.getElem?_concat_length];simp [qC]
   ·rw [List.getElem?_append_left (by omega)]
    exact hr x (by omega)
noncomputable def row (n:Nat) (g:Nat->Nat):List D:=((List.range n).map g).map nD
theorem gD {n:Nat}{g:Nat->Nat}{i:Nat} (h:i<n):(row n g)[i]?=some (nD (g i)):=by
 unfold row
 rw [List.getElem?_map,List.getElem?_map,List.getElem?_range h];rfl
theorem ie {n:Nat}{g:Nat->Nat}{i v:Nat} (h:i<n):(row n g).set i (nD v)=row n (up g i v):=by
 unfold row
 apply List.ext_getElem?
 intro k
 by_cases e:k=i
 ·subst e
  rw [List.getElem?_set_self (by simpa using h)]
  simp [List.getElem?_range h,up]
 ·rw [List.getElem?_set_ne (Ne.symm e)]
  simp only [List.getElem?_map]
  by_cases hk:k<n
  ·simp [List.getElem?_range hk,up,e]
  ·rw [List.getElem?_eq_none (by simp;omega)];rfl
theorem ut (n:Nat):qC n=row n fun _=>0:=by
 unfold qC row
 congr 1
 apply List.ext_getElem?
 intro k
 by_cases hk:k<n
 ·simp [List.getElem?_range hk,hk]
 ·rw [List.getElem?_eq_none (by simp;omega),List.getElem?_eq_none (by simp;omega)]
structure JS (M0:Mo) (n e:Nat) (A:Nat->Nat->Nat) (M:Mo):Prop where
 ex:Ex M0 M
 len:M.length=M0.length + n + e
 row:∀ x,x<n->M[M0.length + x]?=some (.lst (row n (A x)))
theorem JS.set {M0:Mo}{n e:Nat}{A:Nat->Nat->Nat}{M:Mo} (h:JS M0 n e A M) {x y v:Nat} (hx:x<n) (hy:y<n):iM (.ref (M0.length + x)) (nD y) (nD v) M=some (.ok (),M.set (M0.length + x) (.lst (K.row n (up (A x) y v))))∧JS M0 n e (cB A x y v) (M.set (M0.length + x) (.lst (K.row n (up (A x) y v)))):=by
 have hr:=h.row x hx
 refine ⟨?_,⟨⟨by simp;exact h.ex.le,fun q hq=>by rw [List.getElem?_set_ne (by omega)];exact h.ex.keep q hq⟩,by rw [List.length_set];exact h.len,fun i hi=>?_⟩⟩
 ·have:=dY (v:=nD v) hr (i:=y) (by simpa [K.row] using hy)
  rw [ie hy] at this
  exact this
 ·by_cases e':i=x
  ·subst e'
   rw [List.getElem?_set_self (List.getElem?_eq_some_iff.mp hr).1]
   simp [cB]
  ·rw [List.getElem?_set_ne (by omega),h.row i hi]
   simp [cB,e']
theorem uq (a b:Nat):(rd (rF [nD a,nD b]):DM D)=pure (nD (min a b)):=by
 unfold nD
 rw [Dg]
 have:(if (b:Int)<(a:Int) then (b:Int) else (a:Int))=((min a b:Nat):Int):=by split<;>omega
 rw [this]
theorem JS.push {M0:Mo}{n e:Nat}{A:Nat->Nat->Nat}{M:Mo} (h:JS M0 n e A M) {o:DO}:JS M0 n (e + 1) A (M++[o]):=
 ⟨⟨by have:=h.ex.le;simp;omega,fun q hq=>by have:=h.ex.le;rw [List.getElem?_append_left (by omega)];exact h.ex.keep q hq⟩,by have:=h.len;simp;omega,fun x hx=>by have:=h.len;rw [List.getElem?_append_left (by omega)];exact h.row x hx⟩
noncomputable def refs (b n:Nat):D:=.lst ((List.range n).map fun x=>D.ref (b + x))
theorem jD {b n x:Nat} (h:x<n):(rd (dI (refs b n) (nD x)):DM D)=pure (.ref (b + x)):=rG (by rw [List.getElem?_map,List.getElem?_range h];rfl)
noncomputable def zj (M0:Mo) (n:Nat) (F T:Nat->Nat) (i:Nat) (δ:aa) (M:Mo):Prop:=(∃ z,δ=[some (.tup (row n F)),some (.tup (row n T)),some (nD n),some (refs M0.length n),z,none,none,none,none,none])∧JS M0 n 0 (fun x y=>if x=y∧x<i then min (F x) (T x) else 0) M
theorem zU {F T:Nat->Nat}{j:Nat}:cB (fun x y=>if x=y∧x<j then min (F x) (T x) else 0) j j (min (F j) (T j))=fun x y=>if x=y∧x<j + 1 then min (F x) (T x) else 0:=by
 funext x y
 unfold cB
 by_cases e:x=j
 ·subst e
  rw [if_pos rfl]
  by_cases k:y=x
  ·subst k;rw [cC,if_pos ⟨rfl,by omega⟩]
  ·rw [dJ k];dsimp only;rw [if_neg (by omega),if_neg (by omega)]
 ·rw [if_neg e]
  dsimp only
  by_cases k:x=y∧x<j
  ·rw [if_pos k,if_pos ⟨k.1,by omega⟩]
  ·rw [if_neg k,if_neg (by omega)]
theorem pI {n:Nat}{F:Nat->Nat}{j:Nat} (h:j<n):(rd (dI (.tup (row n F)) (nD j)):DM D)=pure (nD (F j)):=pU (gD h)
noncomputable def Dy (M0:Mo) (rest:aa) (G:Nat->Nat) (i:Nat) (δ:aa) (l:List D) (M:Mo):Prop:=(∃ z,δ=z::rest)∧l=row i G∧M=M0
theorem qJ {fe:aa->DM D}{rest:aa}{n:Nat}{G:Nat->Nat}{M:Mo}{x:Option D} (hn:n≤1000) (h:∀ j,j<n->Rn (fe (some (nD j)::rest)) M fun d M'=>M'=M∧d=nD (G j)) :
  Rn (bu (gN 0) (fun _=>pure true) (aV fe) ((List.range n).map nD) (x::rest) []) M fun p M'=>M'=M∧p.2=row n G:=by
 refine (cN (Dy M rest G) ((List.range n).map nD) 0 (x::rest) [] M ⟨⟨x,rfl⟩,rfl,rfl⟩ (fun j d δ l M1 hj hI=>?_)).mono fun p M' hI=>?_
 ·obtain ⟨⟨z,rfl⟩,rfl,rfl⟩:=hI
  have hj':j<n:=by
   have:=(List.getElem?_eq_some_iff.mp hj).1
   simpa using this
  have ed:d=nD j:=by
   rw [List.getElem?_map,List.getElem?_range hj'] at hj
   exact (Option.some.inj hj).symm
  subst ed
  have lt:(row (0 + j) G).length<sizeLine:=by show _<2 ^ 24;simp [row];omega
  rw [gb,au,au]
  show Rn (aV fe (some (nD j)::rest) (row (0 + j) G)) M1 _
  unfold aV
  refine Rn.bind (h j hj') fun d M' ⟨e1,e2⟩=>?_
  subst e1 e2
  rw [if_pos lt]
  refine Rn.pure ⟨⟨_,rfl⟩,?_,rfl⟩
  simp [row,List.range_succ]
 ·obtain ⟨_,e1,e2⟩:=hI
  exact ⟨e2,by rw [e1];simp⟩
theorem tL {n e x:Nat}{A:Nat->Nat->Nat}{M0 M:Mo} (js:JS M0 n e A M) {y:Nat} (hx:x<n) (hy:y<n):dI (.ref (M0.length + x)) (nD y) M=some (nD (A x y)):=fJ (js.row x hx) (gD hy)
theorem iH {a b:Nat} (h:b≤a):(rd (ux (nD a) (nD b)):DM D)=pure (nD (a - b)):=by
 unfold nD
 rw [Et]
 have:(a:Int) - (b:Int)=((a - b:Nat):Int):=by omega
 rw [this]
structure JG (M0:Mo) (n:Nat) (g:G) (M:Mo):Prop where
 js:JS M0 n 2 g.A M
 left:M[M0.length + n]?=some (.lst (row n g.L))
 want:M[M0.length + n + 1]?=some (.lst (row n g.W))
theorem JS.other {M0:Mo}{n e q:Nat}{A:Nat->Nat->Nat}{M:Mo} (h:JS M0 n e A M) (hq:M0.length + n≤q) {o:DO}:JS M0 n e A (M.set q o):=
 ⟨⟨by have:=h.ex.le;simp;omega,fun k hk=>by rw [List.getElem?_set_ne (by omega)];exact h.ex.keep k hk⟩,by rw [List.length_set];exact h.len,fun x hx=>by rw [List.getElem?_set_ne (by omega)];exact h.row x hx⟩
theorem JG.setA (h:JG M0 n g M) (hx:x<n) (hy:y<n):∃ M',iM (.ref (M0.length + x)) (nD y) (nD v) M=some (.ok (),M')∧JG M0 n ⟨cB g.A x y v,g.L,g.W⟩ M':=by
 obtain ⟨e,j⟩:=h.js.set (v:=v) hx hy
 refine ⟨_,e,j,?_,?_⟩
 ·rw [List.getElem?_set_ne (by omega)];exact h.left
 ·rw [List.getElem?_set_ne (by omega)];exact h.want
theorem JG.setL (h:JG M0 n g M) (hx:x<n):∃ M',iM (.ref (M0.length + n)) (nD x) (nD v) M=some (.ok (),M')∧JG M0 n ⟨g.A,up g.L x v,g.W⟩ M':=by
 have e:=dY (v:=nD v) h.left (i:=x) (by simpa [row] using hx)
 rw [ie hx] at e
 refine ⟨_,e,h.js.other (Nat.le_refl _),?_,?_⟩
 ·rw [List.getElem?_set_self (List.getElem?_eq_some_iff.mp h.left).1]
 ·rw [List.getElem?_set_ne (by omega)];exact h.want
theorem JG.setW (h:JG M0 n g M) (hy:y<n):∃ M',iM (.ref (M0.length + n + 1)) (nD y) (nD v) M=some (.ok (),M')∧JG M0 n ⟨g.A,g.L,up g.W y v⟩ M':=by
 have e:=dY (v:=nD v) h.want (i:=y) (by simpa [row] using hy)
 rw [ie hy] at e
 refine ⟨_,e,h.js.other (by omega),?_,?_⟩
 ·rw [List.getElem?_set_ne (by omega)];exact h.left
 ·rw [List.getElem?_set_self (List.getElem?_eq_some_iff.mp h.want).1]
theorem Aq (a b:Nat):(rd (cX (fun _ _=>true) (fun i j=>.int (i + j)) (nD a) (nD b)):DM D)=pure (nD (a + b)):=dG fun M=>by
 show some (D.int ((a:Int) + (b:Int)))=_
 unfold nD
 rw [Int.natCast_add]
noncomputable def sp (n i:Nat):List (Nat×Nat):=(List.range i).flatMap fun x=>(List.range n).map fun y=>(x,y)
noncomputable abbrev zB (M0:Mo) (n:Nat) (F T:Nat->Nat) (z z7 z8 z9:Option D):aa:=[some (.tup (row n F)),some (.tup (row n T)),some (nD n),some (refs M0.length n),z,some (.ref (M0.length + n)),some (.ref (M0.length + n + 1)),z7,z8,z9]
noncomputable def Fp (M0:Mo) (n:Nat) (F T:Nat->Nat) (z:Option D) (g:G) (i:Nat) (δ:aa) (M:Mo):Prop:=(∃ z7 z8 z9,δ=zB M0 n F T z z7 z8 z9)∧JG M0 n (g.run (sp n i)) M
noncomputable def Gv (M0:Mo) (n:Nat) (F T:Nat->Nat) (z:Option D) (g:G) (x j:Nat) (δ:aa) (M:Mo):Prop:=(∃ z8 z9,δ=zB M0 n F T z (some (nD x)) z8 z9)∧JG M0 n (g.run (sp n x++(List.range j).map fun y=>(x,y))) M
theorem yZ (g:G) (l:List (Nat×Nat)) (x y:Nat):g.run (l++[(x,y)])=(g.run l).step x y:=by
 unfold G.run
 rw [List.foldl_append];rfl
noncomputable def Dw (M0:Mo) (rest:aa) (R:Nat->D) (i:Nat) (δ:aa) (l:List D) (M:Mo):Prop:=(∃ z,δ=z::rest)∧l=(List.range i).map R∧M=M0
theorem pB {fe:aa->DM D}{rest:aa}{n:Nat}{hd R:Nat->D}{M:Mo}{x:Option D} (hn:n≤1000) (h:∀ j,j<n->Rn (fe (some (hd j)::rest)) M fun d M'=>M'=M∧d=R j) :
  Rn (bu (gN 0) (fun _=>pure true) (aV fe) ((List.range n).map hd) (x::rest) []) M fun p M'=>M'=M∧p.2=(List.range n).map R:=by
 refine (cN (Dw M rest R) ((List.range n).map hd) 0 (x::rest) [] M ⟨⟨x,rfl⟩,rfl,rfl⟩ (fun j d δ l M1 hj hI=>?_)).mono fun p M' hI=>?_
 ·obtain ⟨⟨z,rfl⟩,rfl,rfl⟩:=hI
  have hj':j<n:=by
   have:=(List.getElem?_eq_some_iff.mp hj).1
   simpa using this
  have ed:d=hd j:=by
   rw [List.getElem?_map,List.getElem?_range hj'] at hj
   exact (Option.some.inj hj).symm
  subst ed
  have lt:((List.range (0 + j)).map R).length<sizeLine:=by show _<2 ^ 24;simp;omega
  rw [gb,au,au]
  show Rn (aV fe (some (hd j)::rest) ((List.range (0 + j)).map R)) M1 _
  unfold aV
  refine Rn.bind (h j hj') fun d M' ⟨e1,e2⟩=>?_
  subst e1 e2
  rw [if_pos lt]
  refine Rn.pure ⟨⟨_,rfl⟩,?_,rfl⟩
  simp [List.range_succ]
 ·obtain ⟨_,e1,e2⟩:=hI
  exact ⟨e2,by rw [e1];simp⟩
noncomputable def bz (n:Nat) (A:Nat->Nat->Nat):D:=.tup ((List.range n).map fun x=>.tup (row n (A x)))
noncomputable def qO (n:Nat) (F T:Nat->Nat):G:=G.run ⟨fun x y=>if x=y∧x<n then min (F x) (T x) else 0,fun x=>F x - min (F x) (T x),fun x=>T x - min (F x) (T x)⟩ (sp n n)
theorem Cz {F T:Nat->Nat}{n:Nat}{M:Mo} (hn:n≤25):Rn (v9 [.tup (row n F),.tup (row n T)]) M fun d M'=>d=bz n (qO n F T).A∧Ex M M':=by
 have rg:mL [nD n]=some (.fix ((List.range n).map nD)):=pW (by omega)
 have m0:lG [.int 0]=pure (.lst [.int 0]):=gU (by simp)
 have ln:(rd (bR [.tup (row n F)]):DM D)=pure (nD n):=by simp [row,nD]
 unfold v9 iV fK;dsimp only
 refine Rn.call rfl ?_
 refine aD fun K hK=>?_
 simp [ln]
 rw [hK];clear hK K
 refine aD fun K hK=>?_
 simp [rg,m0,aM,gk]
 refine Rn.bind (dC (yX hn)) fun p M1 ⟨_,e1,l1,x1,r1⟩=>?_
 rw [e1,hK];clear hK K
 refine aD fun K hK=>?_
 simp [rg,vB]
 have js0:JS M n 0 (fun x y=>if x=y∧x<0 then min (F x) (T x) else 0) M1  :=⟨x1,l1,fun x hx=>by
  have z:(fun _:Nat=>0)=fun y=>if x=y∧x<0 then min (F x) (T x) else 0:=by
   funext y
   rw [if_neg (by omega)]
  rw [r1 x hx,ut,z]⟩
 have st0:zj M n F T 0 [some (.tup (row n F)),some (.tup (row n T)),some (nD n),some (refs M.length n),none,none,none,none,none,none] M1:=⟨⟨none,rfl⟩,js0⟩
 show Rn (forL _ _ _ [some (.tup (row n F)),some (.tup (row n T)),some (nD n),some (refs M.length n),none,none,none,none,none,none] >>= K) M1 _
 refine Rn.bind (bQ (zj M n F T) _ 0 _ _ st0 (fun j d δ M2 hj hI=>?_)) (fun r M2 hI=>?_)
 ·obtain ⟨⟨z,rfl⟩,js⟩:=hI
  have hj':j<n:=by
   have:=(List.getElem?_eq_some_iff.mp hj).1
   simpa using this
  have ed:d=nD j:=by
   rw [List.getElem?_map,List.getElem?_range hj'] at hj
   exact (Option.some.inj hj).symm
  subst ed
  simp [pI hj',uq,jD hj']
  rw [Nat.zero_add] at js
  obtain ⟨se,js'⟩:=js.set (v:=min (F j) (T j)) hj' hj'
  refine Rn.run se (Rn.pure ⟨_,rfl,⟨_,rfl⟩,?_⟩)
  rw [zU] at js'
  exact js'
 obtain ⟨δ',rfl,⟨z,rfl⟩,js⟩:=hI
 rw [hK];clear hK K
 rw [List.length_map,List.length_range,Nat.zero_add] at js
 -- what is left
 refine aD fun K hK=>?_
 simp [rg,aM,gk]
 refine Rn.bind (dC (qJ (G:=fun x=>F x - min (F x) (T x)) (by omega) (fun j hj=>?_))) fun p3 M3 ⟨e3,q3⟩=>?_
 ·simp [pI hj,jD hj]
  refine Rn.bindRd _ (tL js hj hj) ?_
  rw [if_pos ⟨rfl,hj⟩,iH (by omega)]
  exact Rn.pure ⟨rfl,rfl⟩
 subst e3
 rw [q3]
 refine Rn.run (a:=.ref M3.length) (M':=M3++[.lst (row n fun x=>F x - min (F x) (T x))]) rfl ?_
 rw [hK];clear hK K
 have js3:JS M n 1 (fun x y=>if x=y∧x<n then min (F x) (T x) else 0) (M3++[.lst (row n fun x=>F x - min (F x) (T x))]):=js.push
 have lf3:(M3++[.lst (row n fun x=>F x - min (F x) (T x))])[M.length + n]?=some (.lst (row n fun x=>F x - min (F x) (T x))):=by
  rw [show M.length + n=M3.length by have:=js.len;omega,List.getElem?_concat_length]
 rw [show M3.length=M.length + n by have:=js.len;omega]
 revert js3 lf3
 generalize M3++[.lst (row n fun x=>F x - min (F x) (T x))]=M4
 intro js3 lf3
 -- what is wanted
 refine aD fun K hK=>?_
 simp [rg,aM,gk]
 refine Rn.bind (dC (qJ (G:=fun x=>T x - min (F x) (T x)) (by omega) (fun j hj=>?_))) fun p5 M5 ⟨e5,q5⟩=>?_
 ·simp [pI hj,jD hj]
  refine Rn.bindRd _ (tL js3 hj hj) ?_
  rw [if_pos ⟨rfl,hj⟩,iH (by omega)]
  exact Rn.pure ⟨rfl,rfl⟩
 subst e5
 rw [q5]
 refine Rn.run (a:=.ref M5.length) (M':=M5++[.lst (row n fun x=>T x - min (F x) (T x))]) rfl ?_
 rw [hK];clear hK K
 have jg:JG M n ⟨fun x y=>if x=y∧x<n then min (F x) (T x) else 0,fun x=>F x - min (F x) (T x),fun x=>T x - min (F x) (T x)⟩ (M5++[.lst (row n fun x=>T x - min (F x) (T x))]):=by
  refine ⟨js3.push,?_,?_⟩
  ·rw [List.getElem?_append_left (by have:=js3.len;omega)];exact lf3
  ·rw [show M.length + n + 1=M5.length by have:=js3.len;omega,List.getElem?_concat_length]
 rw [show M5.length=M.length + n + 1 by have:=js3.len;omega]
 revert jg
 generalize (M5++[DO.lst (row n fun x=>T x - min (F x) (T x))])=M6
 generalize hg0:(⟨fun x y=>if x=y∧x<n then min (F x) (T x) else 0,fun x=>F x - min (F x) (T x),fun x=>T x - min (F x) (T x)⟩:G)=g0
 intro jg
 refine aD fun K hK=>?_
 simp only [zH,List.getElem?_cons_zero,List.getElem?_cons_succ,Option.join_some,cO,au,cY,rg,vB]
 show Rn (forL _ _ _ (zB M n F T z none none none) >>= K) M6 _
 refine Rn.bind (bQ (Fp M n F T z g0) _ 0 _ _ ⟨⟨none,none,none,rfl⟩,jg⟩ (fun i d δ M7 hi hI=>?_)) (fun r M7 hI=>?_)
 ·obtain ⟨⟨z7,z8,z9,rfl⟩,j7⟩:=hI
  have hi':i<n:=by
   have:=(List.getElem?_eq_some_iff.mp hi).1
   simpa using this
  have ed:d=nD i:=by
   rw [List.getElem?_map,List.getElem?_range hi'] at hi
   exact (Option.some.inj hi).symm
  subst ed
  rw [Nat.zero_add] at j7
  rw [gb,au]
  simp only [List.set_cons_succ,List.set_cons_zero,List.getElem?_cons_zero,List.getElem?_cons_succ,Option.join_some,cO,au,rg]
  show Rn (forL _ _ _ (zB M n F T z (some (nD i)) z8 z9)) M7 _
  refine (bQ (Gv M n F T z g0 i) _ 0 _ _ ⟨⟨z8,z9,rfl⟩,by simpa using j7⟩ (fun j d δ M8 hj hI=>?_)).mono (fun r M8 hI=>?_)
  ·obtain ⟨⟨z8,z9,rfl⟩,j8⟩:=hI
   have hj':j<n:=by
    have:=(List.getElem?_eq_some_iff.mp hj).1
    simpa using this
   have ed:d=nD j:=by
    rw [List.getElem?_map,List.getElem?_range hj'] at hj
    exact (Option.some.inj hj).symm
   subst ed
   rw [Nat.zero_add] at j8
   generalize hg:g0.run (sp n i++(List.range j).map fun y=>(i,y))=g at j8
   rw [gb,au]
   refine aD fun K hK=>?_
   simp
   refine Rn.bindRd _ (fJ j8.left (gD hi')) ?_
   refine Rn.bindRd _ (fJ j8.want (gD hj')) ?_
   rw [uq,au,hK];clear hK K
   obtain ⟨N1,s1,k1⟩:=j8.setA (v:=g.A i j + min (g.L i) (g.W j)) hi' hj'
   obtain ⟨N2,s2,k2⟩:=k1.setL (v:=g.L i - min (g.L i) (g.W j)) hi'
   obtain ⟨N3,s3,k3⟩:=k2.setW (v:=g.W j - min (g.L i) (g.W j)) hj'
   refine aD fun K hK=>?_
   simp [jD hi']
   refine Rn.bindRd _ (qj (j8.js.row i hi') (gD hj')) ?_
   rw [Aq,au]
   refine Rn.run s1 ?_
   rw [hK];clear hK K
   refine aD fun K hK=>?_
   simp
   refine Rn.bindRd _ (qj k1.left (gD hi')) ?_
   rw [iH (Nat.min_le_left _ _),au]
   refine Rn.run s2 ?_
   rw [hK];clear hK K
   simp
   refine Rn.bindRd _ (qj k2.want (gD hj')) ?_
   rw [iH (Nat.min_le_right _ _),au]
   refine Rn.run s3 (Rn.pure ⟨_,rfl,⟨_,_,rfl⟩,?_⟩)
   rw [List.range_succ,List.map_append,←List.append_assoc]
   show JG M n (g0.run (_++[(i,j)])) N3
   rw [yZ,hg]
   exact k3
  ·obtain ⟨δ',rfl,⟨z8,z9,rfl⟩,j9⟩:=hI
   refine ⟨_,rfl,⟨_,_,_,rfl⟩,?_⟩
   rw [List.length_map,List.length_range,Nat.zero_add] at j9
   rw [Nat.zero_add,show sp n (i + 1)=sp n i++(List.range n).map fun y=>(i,y) by simp [sp,List.range_succ]]
   exact j9
 ·obtain ⟨δ',rfl,⟨z7,z8,z9,rfl⟩,j9⟩:=hI
  rw [List.length_map,List.length_range,Nat.zero_add] at j9
  rw [hK];clear hK K
  have al:∀ l:List D,(rd (nH (.lst l)):DM Itn)=pure (.fix l):=fun l=>rfl
  have al':(rd (nH (refs M.length n)):DM Itn)=pure (.fix ((List.range n).map fun x=>D.ref (M.length + x))):=rfl
  simp only [zH,List.getElem?_cons_zero,List.getElem?_cons_succ,Option.join_some,cO,au,cY,al',aM,gk,List.map_nil,Ar]
  refine Rn.bind (dC (pB (rest:=[]) (R:=fun x=>.tup (row n ((g0.run (sp n n)).A x))) (by omega) (fun j hj=>?_))) fun p M8 ⟨e8,q8⟩=>?_
  ·simp
   exact Rn.rd (by show (bc (.ref (M.length + j)) M7).map _=_;simp only [bc,j9.js.row j hj];rfl) ⟨rfl,rfl⟩
  subst e8
  rw [q8]
  simp only [Di,au,Dj]
  refine Rn.pure ⟨_,rfl,?_,j9.js.ex⟩
  unfold bz qO
  rw [hg0]
theorem Eu {n:Nat}:∀ p∈sp n n,p.1<n∧p.2<n:=by
 intro p hp
 unfold sp at hp
 obtain ⟨x,hx,hp⟩:=List.mem_flatMap.mp hp
 obtain ⟨y,hy,rfl⟩:=List.mem_map.mp hp
 exact ⟨List.mem_range.mp hx,List.mem_range.mp hy⟩
theorem Dm {n x y:Nat} (hx:x<n) (hy:y<n):(x,y)∈sp n n:=
 List.mem_flatMap.mpr ⟨x,List.mem_range.mpr hx,List.mem_map.mpr ⟨y,List.mem_range.mpr hy,rfl⟩⟩
theorem Bl {n x:Nat} (c:Nat) (hx:x<n):S n (fun y=>if x=y∧x<n then c else 0)=c:=by
 have:S n (up (fun _=>0) x c) + 0=S n (fun _=>0) + c:=jU (f:=fun _=>0) hx
 rw [gm (f:=fun _=>0) fun _ _=>rfl] at this
 have e:S n (fun y=>if x=y∧x<n then c else 0)=S n (up (fun _=>0) x c):=cW fun i _=>by
  unfold up
  by_cases k:i=x
  ·subst k;rw [if_pos ⟨rfl,hx⟩,if_pos rfl]
  ·rw [if_neg (fun z=>k z.1.symm),if_neg k]
 omega
theorem zQ {n y:Nat} (c:Nat->Nat) (hy:y<n):S n (fun x=>if x=y∧x<n then c x else 0)=c y:=by
 have e:S n (fun x=>if x=y∧x<n then c x else 0)=S n (up (fun _=>0) y (c y)):=cW fun i hi=>by
  unfold up
  by_cases k:i=y
  ·subst k;rw [if_pos ⟨rfl,hi⟩,if_pos rfl]
  ·rw [if_neg (fun z=>k z.1),if_neg k]
 have:S n (up (fun _=>0) y (c y)) + 0=S n (fun _=>0) + c y:=jU (f:=fun _=>0) hy
 rw [gm (f:=fun _=>0) fun _ _=>rfl] at this
 omega
structure Joins (n:Nat) (F T:Nat->Nat) (A:Nat->Nat->Nat):Prop where
 row:∀ x,x<n->S n (A x)=F x
 col:∀ y,y<n->S n (fun x=>A x y)=T y
theorem Joins.diag {n:Nat}{F T:Nat->Nat}{A:Nat->Nat->Nat} (h:Joins n F T A) {x:Nat} (hx:x<n):A x x≤min (F x) (T x):=by
 have a:=jT (f:=A x) hx
 have b:=jT (f:=fun i=>A i x) hx
 rw [h.row x hx] at a
 rw [h.col x hx] at b
 have b:A x x≤T x:=b
 omega
noncomputable def parts (n:Nat) (A:Nat->Nat->Nat):Nat:=S n fun x=>S n (A x) - A x x
noncomputable def qb (n:Nat) (F T:Nat->Nat):Nat:=S n fun x=>F x - T x
theorem Joins.least {n:Nat}{F T:Nat->Nat}{A:Nat->Nat->Nat} (h:Joins n F T A):qb n F T≤parts n A:=Bm fun x hx=>by
 rw [h.row x hx]
 have:=h.diag hx
 omega
theorem tO {n:Nat}{F T:Nat->Nat} (e:S n F=S n T):Joins n F T (qO n F T).A∧∀ x,x<n->(qO n F T).A x x=min (F x) (T x):=by
 have ok0:G.Ok ⟨fun x y=>if x=y∧x<n then min (F x) (T x) else 0,fun x=>F x - min (F x) (T x),fun x=>T x - min (F x) (T x)⟩ n F T:=⟨fun x hx=>by
  show S n (fun y=>if x=y∧x<n then min (F x) (T x) else 0) + (F x - min (F x) (T x))=F x
  rw [Bl _ hx];omega,fun y hy=>by
  show S n (fun x=>if x=y∧x<n then min (F x) (T x) else 0) + (T y - min (F y) (T y))=T y
  rw [zQ (fun x=>min (F x) (T x)) hy];omega⟩
 have ok:=G.run_ok ok0 Eu
 obtain ⟨_,_,h3,h4⟩:=G.run_le (sp n n) ⟨fun x y=>if x=y∧x<n then min (F x) (T x) else 0,fun x=>F x - min (F x) (T x),fun x=>T x - min (F x) (T x)⟩
 obtain ⟨l0,w0⟩:=G.done ok e fun x y hx hy=>h3 (x,y) (Dm hx hy)
 have J:Joins n F T (qO n F T).A:=⟨fun x hx=>by have:=ok.row x hx;rw [l0 x hx] at this;exact this,fun y hy=>by have:=ok.col y hy;rw [w0 y hy] at this;exact this⟩
 refine ⟨J,fun x hx=>?_⟩
 have a:=J.diag hx
 have b:(if x=x∧x<n then min (F x) (T x) else 0)≤(qO n F T).A x x:=h4 x x
 rw [if_pos ⟨rfl,hx⟩] at b
 omega
theorem yN {n:Nat}{F T:Nat->Nat} (e:S n F=S n T):parts n (qO n F T).A=qb n F T:=by
 obtain ⟨J,d⟩:=tO e
 exact cW fun x hx=>by rw [J.row x hx,d x hx];omega
noncomputable def fn (l:List Nat):Nat->Nat:=fun i=>l.getD i 0
theorem xj {l:List Nat}{n:Nat} (h:l.length=n):nT l=.tup (row n (fn l)):=by
 unfold nT row
 congr 2
 apply List.ext_getElem?
 intro k
 by_cases hk:k<n
 ·rw [List.getElem?_map,List.getElem?_range hk,List.getElem?_eq_getElem (by omega)]
  show _=some (l.getD k 0)
  rw [List.getD_eq_getElem?_getD,List.getElem?_eq_getElem (by omega)];rfl
 ·rw [List.getElem?_eq_none (by omega),List.getElem?_eq_none (by simp;omega)]
structure Smn (n:Nat) (l:List Nat):Prop where
 ne:l≠[]
 lt:∀ i∈l,i<n
 len:l.length≤100
theorem Av {n:Nat} (h:n≤1000):(rd (fun M=>(rB [nD n] M).map D.lst):DM D)=pure (.lst ((List.range n).map nD)):=dG fun M=>by
 have:rB [nD n] M=some ((List.range n).map nD):=by
  unfold nD
  show (if -(2 ^ 62)≤(n:Int)∧(n:Int)≤2 ^ 20 then some ((List.range (n:Int).toNat).map nD) else none)=_
  rw [if_pos ⟨by omega,by omega⟩,Int.toNat_natCast]
  rfl
 rw [this];rfl
noncomputable def rZ:=aL 4 7 (o6 lO)
structure RwS (M0:Mo) (p t n i:Nat) (M:Mo):Prop where
 pen:cV p M
 sb:Sb p M0 M
 ex:∃ r:List Nat,M[t]?=some (.lst (r.map nD))∧r.length=n∧r.sum=i
noncomputable def GJ (M0:Mo) (p t n:Nat) (pre:aa) (i:Nat) (δ:aa) (M:Mo):Prop:=(∃ z5 z6,δ=pre++[z5,z6])∧RwS M0 p t n i M
theorem Ax {p n W:Nat}{s:List Nat}{M:Mo} (hp:cV p M) (hs:Smn n s) (hn:n≤25) (hW:W≤1000):Rn (rZ [.ref p,nD n,nD W,.lst (s.map nD)]) M fun d M'=>∃ r:List Nat,d=nT r∧r.length=n∧r.sum=W∧cV p M'∧Sb p M M':=by
 unfold rZ o6 kW;dsimp only
 refine Rn.call rfl ?_
 have st:cA 7 [D.ref p,nD n,nD W,.lst (s.map nD)]=[some (.ref p),some (nD n),some (nD W),some (.lst (s.map nD)),none,none,none]:=rfl
 rw [st]
 have m0:lG [.int 0]=pure (.lst [.int 0]):=gU (by simp)
 refine aD fun K hK=>?_
 simp [m0]
 refine oM (by omega) ?_
 have pt:p≠M.length:=by have:=hp.lt;omega
 have st0:RwS M p M.length n 0 (M++[.lst ((List.replicate n 0).map nD)]):=⟨hp.sb (q:=M.length) Sb.push pt,Sb.new (p:=p) (.inr (Nat.le_refl _)) (Nat.le_refl _) Sb.push Sb.refl,List.replicate n 0,by simp,by simp,by simp⟩
 rw [hK];clear hK K
 revert st0 pt
 generalize ht:M.length=t
 generalize M++[DO.lst ((List.replicate n 0).map nD)]=M1
 intro pt st0
 have tl:M.length≤t:=by omega
 refine aD fun K hK=>?_
 simp [dN (n:=W) (by omega),fF]
 refine Rn.bind (bQ (GJ M p t n [some (.ref p),some (nD n),some (nD W),some (.lst (s.map nD)),some (.ref t)]) _ 0 _ _ ⟨⟨none,none,rfl⟩,st0⟩ (fun j d δ M8 hj hI=>?_)) (fun r M8 hI=>?_)
 ·obtain ⟨⟨z5,z6,rfl⟩,hp8,sb8,r,at8,lr,sr⟩:=hI
  obtain ⟨hj',rfl⟩:=kZ hj
  rw [Nat.zero_add] at sr ⊢
  simp only [List.cons_append,List.nil_append,gb,au,List.set_cons_succ,List.set_cons_zero]
  refine aD fun K hK=>?_
  have ln:(rd (bR [.lst (s.map nD)]):DM D)=pure (nD s.length):=by simp [nD]
  have l0:0<s.length:=List.length_pos_iff.mpr hs.ne
  simp [ln]
  refine Rn.bind (eO hp8 l0 (by have:=hs.len;omega)) fun d9 M9 ⟨u,g9,e9,hp9,s9⟩=>?_
  subst e9
  simp only [pR g9,au]
  have ul:ga s u<r.length:=by rw [lr];exact hs.lt _ (pF g9)
  have at9:=s9.at (fun z=>pt z.symm) at8
  have t9:=(List.getElem?_eq_some_iff.mp at9).1
  generalize ga s u=v at ul
  rw [hK];clear hK K
  simp
  refine Rn.bindRd (nD (ga r v)) (fJ (i:=v) at9 (by rw [List.getElem?_map,List.getElem?_eq_getElem ul,vC ul];rfl)) ?_
  have ad:(rd (eU (nD (ga r v)) (.int 1)):DM D)=pure (nD (ga r v + 1)):=gB _ 1
  simp [ad]
  refine Rn.run (dY (i:=v) at9 (by rw [List.length_map];exact ul)) ?_
  refine Rn.pure ⟨_,rfl,⟨_,_,rfl⟩,hp9.sb (q:=t) Sb.set pt,Sb.new (p:=p) (.inr (sb8.trans s9).le) tl Sb.set (sb8.trans s9),r.set v (ga r v + 1),?_,by rw [List.length_set];exact lr,?_⟩
  ·rw [List.getElem?_set_self t9,List.map_set]
  ·have:=Az (l:=r) (i:=v) (v:=ga r v + 1) ul
   omega
 obtain ⟨δ',rfl,⟨z5,z6,rfl⟩,hp8,sb8,r,at8,lr,sr⟩:=hI
 rw [List.length_map,List.length_range,Nat.zero_add] at sr
 rw [hK];clear hK K
 simp
 refine Rn.bindRd (nT r) (by show (bc (.ref t) M8).map _=_;simp only [bc,at8];rfl) ?_
 exact Rn.pure ⟨_,rfl,r,rfl,lr,sr,hp8,sb8⟩
noncomputable def sy:=aL 2 8 (nP lO rZ)
structure RwsS (M0:Mo) (p q n W:Nat) (i:Nat) (M:Mo):Prop where
 pen:cV p M
 sb:Sb p M0 M
 ex:∃ R:List (List Nat),R.length=i∧M[q]?=some (.lst (R.map nT))∧∀ r∈R,r.length=n∧r.sum=W
noncomputable def Ft (M0:Mo) (p tp q n W:Nat) (i:Nat) (δ:aa) (M:Mo):Prop:=(∃ z5 z6 z7,δ=[some (.ref p),some (nD tp),some (nD n),some (nD W),some (.ref q),z5,z6,z7])∧RwsS M0 p q n W i M
theorem nA (c:Nat):∀ l:List Nat,(l.map (·* c)).sum=l.sum * c
 | []=>by simp
 | a::l=>by simp [nA c l,Nat.add_mul]
theorem Ay {p tp:Nat}{M:Mo} (hp:cV p M) (h1:1≤tp) (h2:tp≤6):Rn (sy [.ref p,nD tp]) M fun d M'=>∃ (R:List (List Nat)) (W:Nat),d=nM R∧WK R W∧R.length≤tp∧W≤9000000000∧cV p M'∧Sb p M M':=by
 have hpl:=hp.lt
 unfold sy nP jw;dsimp only
 refine Rn.call rfl ?_
 have st:cA 8 [D.ref p,nD tp]=[some (.ref p),some (nD tp),none,none,none,none,none,none]:=rfl
 rw [st]
 refine aD fun K hK=>?_
 simp
 refine Rn.bind (eO hp (by omega:0<tp) (by omega)) fun d1 M1 ⟨t1,g1,e1,hp1,s1⟩=>?_
 subst e1
 simp only [ug,au]
 have d9:=eO (m:=9) hp1 (by decide) (by decide)
 refine Rn.bind d9 fun d2 M2 ⟨t2,g2,e2,hp2,s2⟩=>?_
 subst e2
 simp only [ug,au]
 have sb2:Sb p M M2:=s1.trans s2
 have hn1:1≤t1 + 1:=by omega
 have hn2:t1 + 1≤tp:=by omega
 have hW:1≤t2 + 1∧t2 + 1≤9:=by omega
 revert hn1 hn2 hW
 generalize t1 + 1=n
 generalize t2 + 1=W
 intro n1 n2 hW
 rw [hK];clear hK K d9
 refine aD fun K hK=>?_
 simp
 refine Rn.eQ (by simp) ?_
 have pq:p≠M2.length:=by have:=hp2.lt;omega
 have ql:M.length≤M2.length:=sb2.le
 have st0:RwsS M p M2.length n W 0 (M2++[.lst []]):=⟨hp2.sb (q:=M2.length) Sb.push pq,Sb.new (p:=p) (.inr sb2.le) ql Sb.push sb2,[],rfl,by simp,by simp⟩
 rw [hK];clear hK K hp1 hp2 s1 s2
 revert st0 pq ql
 generalize M2.length=q
 generalize M2++[DO.lst []]=M4
 intro pq ql st0
 refine aD fun K hK=>?_
 simp [dN (n:=n) (by omega),fF]
 refine Rn.bind (bQ (Ft M p tp q n W) _ 0 _ _ ⟨⟨_,_,_,rfl⟩,st0⟩ (fun x d δ M5 hx hI=>?_)) (fun r M5 hI=>?_)
 ·clear hK K
  obtain ⟨⟨z5,z6,z7,rfl⟩,hp5,sb5,R,lR,at5,hR⟩:=hI
  obtain ⟨hx',rfl⟩:=kZ hx
  rw [Nat.zero_add] at lR ⊢
  rw [gb,au]
  refine aD fun K hK=>?_
  simp [Av (n:=n) (by omega)]
  refine Rn.bind (eO hp5 (by omega:0<n) (by omega)) fun d1 M7 ⟨u1,g1,e1,hp7,s7⟩=>?_
  refine Rn.bind (eO hp7 (by omega:0<n) (by omega)) fun d2 M8 ⟨u2,g2,e2,hp8,s8⟩=>?_
  subst e1 e2
  have ml:lG [nD u1,nD u2]=pure (.lst ([u1,u2].map nD)):=gU (by simp)
  have ml2:lG [.lst ((List.range n).map nD),.lst ([u1,u2].map nD)]=pure (.lst [.lst ((List.range n).map nD),.lst ([u1,u2].map nD)]):=gU (by simp)
  simp only [ml,au,ml2]
  have d2:=eO (m:=2) hp8 (by decide) (by decide)
  refine Rn.bind d2 fun d3 M9 ⟨u3,g3,e3,hp9,s9⟩=>?_
  subst e3
  have sb9:Sb p M M9:=sb5.trans (s7.trans (s8.trans s9))
  have at9:=(s7.trans (s8.trans s9)).at (fun z=>pq z.symm) at5
  obtain ⟨l,el,som⟩:∃ l:List Nat,(rd (dI (.lst [.lst ((List.range n).map nD),.lst ([u1,u2].map nD)]) (nD u3)):DM D)=pure (.lst (l.map nD))∧Smn n l:=by
   rcases (show u3=0∨u3=1 by omega) with rfl | rfl
   ·exact ⟨List.range n,rG (i:=0) rfl,by simp;omega,fun i hi=>List.mem_range.mp hi,by simp;omega⟩
   ·exact ⟨[u1,u2],rG (i:=1) rfl,by simp,fun i hi=>by simp at hi;omega,by simp⟩
  simp only [el,au]
  rw [hK];clear hK K
  simp
  refine Rn.bindRd _ (by simp only [bc,at9];rfl) ?_
  refine Rn.bind (Ax hp9 som (by omega) (by omega)) fun d10 M10 ⟨r,e10,lr,sr,hp10,s10⟩=>?_
  subst e10
  have at10:=s10.at (fun z=>pq z.symm) at9
  have q10:=(List.getElem?_eq_some_iff.mp at10).1
  have sb10:=sb9.trans s10
  refine Rn.run (zR at10 (by rw [List.length_map];omega)) ?_
  refine Rn.pure ⟨_,rfl,⟨_,_,_,rfl⟩,hp10.sb (q:=q) Sb.set pq,Sb.new (p:=p) (.inr sb10.le) ql Sb.set sb10,R++[r],by simp [lR],by rw [List.getElem?_set_self q10];simp,fun r' hr'=>?_⟩
  rcases List.mem_append.mp hr' with z | z
  ·exact hR r' z
  ·rw [List.mem_singleton.mp z];exact ⟨lr,sr⟩
 ·obtain ⟨δ',rfl,⟨z5,z6,z7,rfl⟩,hp5,sb5,R,lR,at5,hR⟩:=hI
  rw [hK];clear hK K
  rw [List.length_map,List.length_range,Nat.zero_add] at lR
  refine aD fun K hK=>?_
  have p9:(rd (vO (.int 10) (.int 9)):DM D)=pure (.int 1000000000):=by rw [zJ (by decide)];rfl
  have ml:lG [.int 1,.int 1,.int 1,.int 1000000000]=pure (.lst ([1,1,1,1000000000].map nD)):=gU (by simp)
  simp [p9,ml]
  have d4:=eO (m:=4) hp5 (by decide) (by decide)
  refine Rn.bind d4 fun d6 M6 ⟨u,g6,e6,hp6,s6⟩=>?_
  subst e6
  have gu:u<[1,1,1,1000000000].length:=by simpa using g6
  rw [show D.lst [nD 1,nD 1,nD 1,nD 1000000000]=D.lst ([1,1,1,1000000000].map nD) from rfl,pR gu]
  have hc:1≤ga [1,1,1,1000000000] u∧ga [1,1,1,1000000000] u≤1000000000:=by
   have:=pF gu
   generalize ga [1,1,1,1000000000] u=x at this
   simp at this
   omega
  revert hc
  generalize ga [1,1,1,1000000000] u=c
  intro hc
  simp only [au]
  rw [hK];clear hK K
  have at6:=s6.at (fun z=>pq z.symm) at5
  simp
  have hR6:∀ r∈R,r.length≤1000:=fun r hr=>by have:=(hR r hr).1;omega
  have ce:aM 1 [7] [some (D.ref p),some (nD tp),some (nD n),some (nD W),some (D.ref q),z5,z6,some (nD c)]=[none,some (nD c)]:=rfl
  rw [ce]
  refine zY nT (fun r=>nT (r.map (·* c))) at6 (by omega) (fun r hr=>?_) (fun l=>pure (Fl.rt (D.tup l))) (fun q=>rfl) ?_
  ·have e1:aM 1 [1] [some (nT r),some (nD c)]=[none,some (nD c)]:=rfl
   have e2:o5 (nT r)=some (.fix (r.map nD)):=rfl
   simp [e1,e2,lA]
   rw [cZ nD (fun w=>nD (w * c)) (by have:=hR6 r hr;omega) fun a _=>by simp [ur (a:=a) (b:=c) (by omega)]]
   simp [nT]
   rfl
  ·refine Rn.pure ⟨_,rfl,R.map (·.map (·* c)),?_,W * c,⟨?_,?_,?_,?_,?_⟩,?_,?_,hp6,sb5.trans s6⟩
   ·simp [nM]
   ·simp;omega
   ·simp;omega
   ·intro r hr
    obtain ⟨r',h',rfl⟩:=List.mem_map.mp hr
    rw [List.length_map,List.length_map,(hR r' h').1,lR]
   ·intro r hr
    obtain ⟨r',h',rfl⟩:=List.mem_map.mp hr
    rw [nA,(hR r' h').2]
   ·have:=Nat.mul_le_mul hW.1 hc.1;omega
   ·simp;omega
   ·have:=Nat.mul_le_mul hW.2 hc.2;omega
theorem wU {β:Type}{fe:aa->DM D}{A:Option D}{rest:aa} (enc:β->D) (e:β->D):∀ (bs:List β) (y:Option D) (l:List D),l.length + bs.length≤1000000->(∀ b∈bs,fe (A::some (enc b)::rest)=pure (e b))->
  ∃ y',bu (gN 1) (fun _=>pure true) (aV fe) (bs.map enc) (A::y::rest) l=pure (A::y'::rest,l++bs.map e)
 | [],y,l,_,_=>⟨y,by simp [bu]⟩
 | b::bs,y,l,hl,h=>by
   have c:=h b (by simp)
   have hl':l.length + (bs.length + 1)≤1000000:=by simpa using hl
   have lt:l.length<sizeLine:=by show l.length<2 ^ 24;omega
   obtain ⟨y',q⟩:=wU (rest:=rest) enc e bs (some (enc b)) (l++[e b]) (by simp;omega) (fun b hb=>h b (by simp [hb]))
   exact ⟨y',by simp [bu,aV,c,lt,q]⟩
theorem pQ (a b:List Nat):(rd (gA (.lst (a.map nD)) (.lst (b.map nD))):DM D)=pure (.bl (decide (a=b))):=dG fun M=>by
 have e:∀ l:List Nat,l.map nD=(l.map fun n:Nat=>(n:Int)).map D.int:=fun l=>by rw [List.map_map];rfl
 have d:=jZ (a.map fun n:Nat=>(n:Int))
 have q:=mq (a.map fun n:Nat=>(n:Int)) (b.map fun n:Nat=>(n:Int))
 have c:decide ((a.map fun n:Nat=>(n:Int))=(b.map fun n:Nat=>(n:Int)))=decide (a=b):=by
  rw [Bool.eq_iff_iff,decide_eq_true_eq,decide_eq_true_eq]
  exact oE
 rw [e a,e b]
 simp only [gA,L3.eqB,eqP,toPy,lw,Option.map_some,PyData.canLay0,lay_ints,PyData.depth,PyData.eqv]
 rw [q,c,if_pos (by rw [Bool.and_self,Bool.true_and];exact decide_eq_true (by omega))]
 rfl
theorem wD {α β:Type}{fi:aa->DM Itn}{fe:aa->DM D}{rest:aa} (enc:α->D) (enc':β->D) (e:α->β->D) (bs:α->List β) (m:Nat) (hb:∀ a,(bs a).length≤m):∀ (as:List α) (x y:Option D) (l:List D),l.length + as.length * m≤1000000->
  (∀ a∈as,∀ y,fi (some (enc a)::y::rest)=pure (.fix ((bs a).map enc')))->(∀ a∈as,∀ b∈bs a,fe (some (enc a)::some (enc' b)::rest)=pure (e a b))->
  ∃ δ',bu (gN 0) (fun _=>pure true) (mC fi (gN 1) (fun _=>pure true) (aV fe)) (as.map enc) (x::y::rest) l=pure (δ',l++as.flatMap fun a=>(bs a).map (e a))
 | [],x,y,l,_,_,_=>⟨x::y::rest,by simp [bu]⟩
 | a::as,x,y,l,hl,h1,h2=>by
   have hl':l.length + (as.length * m + m)≤1000000:=by rw [←Nat.succ_mul];simpa using hl
   have ha:=hb a
   obtain ⟨y',q⟩:=wU (A:=some (enc a)) (rest:=rest) enc' (e a) (bs a) y l (by omega) (fun b hb=>h2 a (by simp) b hb)
   obtain ⟨δ',q'⟩:=wD (rest:=rest) enc enc' e bs m hb as (some (enc a)) y' (l++(bs a).map (e a)) (by simp;omega) (fun a ha=>h1 a (by simp [ha])) (fun a ha=>h2 a (by simp [ha]))
   exact ⟨δ',by simp [bu,mC,h1 a (by simp),cI,q,q']⟩
theorem BK {α β γ:Type}{fi:aa->DM Itn}{fe:aa->DM D}{x y:Option D}{rest:aa}{as:List α}{k:aa×List D->DM γ}{r:DM γ} (enc:α->D) (enc':β->D) (e:α->β->D) (bs:α->List β) (m:Nat) (hb:∀ a,(bs a).length≤m) (hl:as.length * m≤1000000)
  (h1:∀ a∈as,∀ y,fi (some (enc a)::y::rest)=pure (.fix ((bs a).map enc'))) (h2:∀ a∈as,∀ b∈bs a,fe (some (enc a)::some (enc' b)::rest)=pure (e a b)) (hk:∀ δ',k (δ',as.flatMap fun a=>(bs a).map (e a))=r) :
  (eX (bu (gN 0) (fun _=>pure true) (mC fi (gN 1) (fun _=>pure true) (aV fe)) (as.map enc) (x::y::rest) []) >>= k)=r:=by
 obtain ⟨δ',q⟩:=wD (x:=x) (y:=y) (l:=[]) (rest:=rest) enc enc' e bs m hb as (by simpa using hl) h1 h2
 rw [q]
 simp [hk]
def prs (n:Nat):List (Nat×Nat):=(List.range n).flatMap fun x=>(List.range (n - (x + 1))).map fun k=>(x,x + 1 + k)
theorem mJ {n:Nat}{q:Nat×Nat} (h:q∈prs n):q.1<q.2∧q.2<n:=by
 unfold prs at h
 simp only [List.mem_flatMap,List.mem_map,List.mem_range] at h
 obtain ⟨x,hx,k,hk,rfl⟩:=h
 dsimp only
 omega
theorem uN {α β:Type}{f:α->List β}{m:Nat}:∀ {l:List α},(∀ x∈l,(f x).length≤m)->(l.flatMap f).length≤l.length * m
 | [],_=>by simp
 | x::l,h=>by
   have:=uN (f:=f) (m:=m) (l:=l) fun y hy=>h y (by simp [hy])
   have:=h x (by simp)
   rw [List.flatMap_cons,List.length_append,List.length_cons,Nat.succ_mul]
   omega
theorem nq {n:Nat} (hn:n≤6):(prs n).length≤36:=by
 have:=uN (f:=fun x=>(List.range (n - (x + 1))).map fun k=>(x,x + 1 + k)) (m:=n) (l:=List.range n) fun x _=>by simp
 rw [List.length_range] at this
 have:=Nat.mul_le_mul hn hn
 unfold prs
 omega
noncomputable def jt (R:List (List Nat)) (q:Nat×Nat):D:=.tup [nT (gr R q.1),nT (gr R q.2)]
theorem gC {R:List (List Nat)}{i:Nat} (h:i<R.length):(rd (dI (nM R) (nD i)):DM D)=pure (nT (gr R i)):=pU (i:=i) (by rw [List.getElem?_map,List.getElem?_eq_getElem h,DX h];rfl)
noncomputable def rW:=aL 1 1 o8
theorem xF {R:List (List Nat)} (h:R.length≤6):rW [nM R]=pure (.lst ((prs R.length).map (jt R))):=by
 have ln:(rd (bR [nM R]):DM D)=pure (nD R.length):=by simp [nM,nD]
 have hl:(rd (bR [nM R]):DM D)=pure (nD R.length):=ln
 simp [rW,o8,ln,dN (n:=R.length) (by omega),lA]
 refine BK (rest:=[some (nM R)]) nD nD (fun x y=>.tup [nT (gr R x),nT (gr R y)]) (fun x=>(List.range (R.length - (x + 1))).map fun k=>x + 1 + k) 6 (fun a=>by simp;omega) (by simp;omega) (fun a ha y=>?_) (fun a ha b hb=>?_) (fun δ'=>?_)
 ·simp [ln,Ao,Aw (a:=a + 1) (b:=R.length) (by have:=List.mem_range.mp ha;omega) (by omega)]
  rfl
 ·have h1:=List.mem_range.mp ha
  obtain ⟨k,hk,rfl⟩:=List.mem_map.mp hb
  have h2:=List.mem_range.mp hk
  simp [gC h1,gC (R:=R) (i:=a + 1 + k) (by omega)]
  exact rJ (by simp)
 ·simp [prs,jt,List.map_flatMap,Function.comp_def]
theorem Ex.refl {M:Mo}:Ex M M:=⟨Nat.le_refl _,fun _ _=>rfl⟩
theorem Ex.trans {M M1 M2:Mo} (h:Ex M M1) (k:Ex M1 M2):Ex M M2:=⟨Nat.le_trans h.le k.le,fun q hq=>(k.keep q (Nat.lt_of_lt_of_le hq h.le)).trans (h.keep q hq)⟩
theorem Ex.sb {p:Nat}{M M':Mo} (h:Ex M M'):Sb p M M':=⟨h.le,fun q _ hl=>h.keep q hl⟩
theorem cV.ex {p:Nat}{M M':Mo} (h:cV p M) (k:Ex M M'):cV p M':=by obtain ⟨a,b,c,hc,e⟩:=h;exact ⟨a,b,c,hc,(k.keep p (List.getElem?_eq_some_iff.mp e).1).trans e⟩
noncomputable def mF (R:List (List Nat)) (q:Nat×Nat):Nat->Nat->Nat:=(qO R.length (fn (gr R q.1)) (fn (gr R q.2))).A
noncomputable def rule (R:List (List Nat)):D:=.tup ((prs R.length).map fun q=>bz R.length (mF R q))
noncomputable def rQ:=aL 1 1 (il rW v9)
noncomputable def Gy (R:List (List Nat)) (M0:Mo) (i:Nat) (δ:aa) (l:List D) (M:Mo):Prop:=(∃ z y,δ=[z,y])∧l=((prs R.length).take i).map (fun q=>bz R.length (mF R q))∧Ex M0 M
theorem Ad {R:List (List Nat)}{W:Nat}{M:Mo} (h:WK R W) (hn:R.length≤6):Rn (rQ [nM R]) M fun d M'=>d=rule R∧Ex M M':=by
 have pl:=nq hn
 unfold rQ il eV;dsimp only
 refine Rn.call rfl ?_
 simp [xF hn,lA]
 have al:(rd (nH (.lst ((prs R.length).map (jt R)))):DM Itn)=pure (.fix ((prs R.length).map (jt R))):=rfl
 simp [al,lA]
 have ce:aM 2 [] [some (nM R)]=[none,none]:=rfl
 rw [ce]
 refine Rn.bind (dC (cN (Gy R M) _ 0 _ [] M ⟨⟨_,_,rfl⟩,rfl,Ex.refl⟩ fun j d δ l M1 hj hI=>?_)) fun p M1 hI=>?_
 ·obtain ⟨⟨z,y,rfl⟩,rfl,ex⟩:=hI
  rw [Nat.zero_add]
  rw [List.getElem?_map] at hj
  obtain ⟨q,hq,rfl⟩:=Option.map_eq_some_iff.mp hj
  have hm:=mJ (List.mem_of_getElem? hq)
  have l1:(gr R q.1).length=R.length:=h.row _ (gr_mem (by omega))
  have l2:(gr R q.2).length=R.length:=h.row _ (gr_mem (by omega))
  have run:=Cz (F:=fn (gr R q.1)) (T:=fn (gr R q.2)) (n:=R.length) (M:=M1) (by omega)
  rw [←xj l1,←xj l2] at run
  simp [jt,aV]
  refine Rn.bind run fun d M2 ⟨e2,x2⟩=>?_
  subst e2
  have lt:(List.take j (prs R.length)).length<sizeLine:=by show _<2 ^ 24;simp;omega
  rw [List.length_take] at lt
  simp [lt]
  refine Rn.pure ⟨⟨_,_,rfl⟩,?_,ex.trans x2⟩
  have hj':=(List.getElem?_eq_some_iff.mp hq).1
  rw [List.take_succ,hq]
  simp [mF]
 ·obtain ⟨_,e1,ex⟩:=hI
  refine Rn.pure ⟨_,rfl,?_,ex⟩
  rw [e1,Nat.zero_add,List.length_map,List.take_of_length_le (Nat.le_refl _)]
  rfl
noncomputable def vZ:=aL 1 1 (nQ rQ)
theorem Bx {R:List (List Nat)}{W:Nat}{M:Mo} (h:WK R W) (hn:R.length≤6):Rn (vZ [lB R W]) M fun d M'=>d=rule R∧Ex M M':=by
 unfold vZ nQ jx;dsimp only
 refine Rn.call rfl ?_
 simp [tu]
 refine Rn.bind (Ad h hn) fun d M2 ⟨e2,x2⟩=>?_
 subst e2
 exact Rn.pure ⟨_,rfl,rfl,x2⟩
noncomputable def dg (n:Nat) (A:Nat->Nat->Nat):List (List Nat):=(List.range n).map fun x=>(List.range n).map (A x)
theorem w6 (n:Nat) (A:Nat->Nat->Nat):bz n A=nM (dg n A):=by simp [bz,nM,dg,nT,row]
theorem Bs {L:List (List Nat)}{n:Nat} (hl:L.length=n) (hr:∀ r∈L,r.length=n) (hn:n≤25):nF [nM L,nD n]=pure (.bl true):=by
 have a:(rd (eE [nM L,.ty "tuple"]):DM D)=pure (.bl true):=fL (t := "tuple") (fun _=>rfl) (by decide)
 have ln:(rd (bR [nM L]):DM D)=pure (nD n):=by simp [nM,nD,hl]
 have as:o5 (nM L)=some (.fix (L.map nT)):=rfl
 simp [nF,jW,a,ln,iG,as,lA,aM,gk]
 rw [cZ nT (fun _=>.bl true) (by omega) fun r hr'=>by simp [uF (hr r hr') (by omega)]]
 simp [mH,ik]
theorem dH (f:Nat->Nat):∀ n:Nat,((List.range n).map f).sum=S n f
 | 0=>rfl
 | n + 1=>by rw [List.range_succ,List.map_append,List.sum_append,dH f n];simp [S]
theorem fM {a:List Nat}{n:Nat} (h:a.length=n):(List.range n).map (fn a)=a:=by
 subst h
 apply List.ext_getElem
 ·simp
 ·intro i h1 h2
  simp [fn,h2]
theorem oJ {n:Nat}{A:Nat->Nat->Nat}{F:Nat->Nat} (h:∀ x,x<n->S n (A x)=F x):(dg n A).map List.sum=(List.range n).map F:=by
 unfold dg
 rw [List.map_map]
 exact List.map_congr_left fun x hx=>by show ((List.range n).map (A x)).sum=_;rw [dH,h x (List.mem_range.mp hx)]
theorem tU {n:Nat}{A:Nat->Nat->Nat}{y:Nat} (hy:y<n):(dg n A).map (fun r=>ga r y)=(List.range n).map fun x=>A x y:=by
 unfold dg
 rw [List.map_map]
 exact List.map_congr_left fun x hx=>by show ga ((List.range n).map (A x)) y=_;rw [vC (by simpa using hy)];simp
theorem kO {n:Nat}{A:Nat->Nat->Nat}{r:List Nat} (h:r∈dg n A):r.length=n:=by
 obtain ⟨x,_,rfl⟩:=List.mem_map.mp h;simp
theorem qw (l:List Nat):(rd fun M=>Option.map D.lst (m8 [nT l] M):DM D)=pure (.lst (l.map nD)):=dG fun M=>rfl
theorem jy (n:Nat) (A:Nat->Nat->Nat):o5 (bz n A)=some (.fix ((dg n A).map nT)):=by rw [w6];rfl
noncomputable def v8:=aL 3 5 (uG nF)
theorem Cw {a b:List Nat}{n:Nat}{A:Nat->Nat->Nat} (ha:a.length=n) (hb:b.length=n) (hn:n≤25) (J:Joins n (fn a) (fn b) A):v8 [nT a,nT b,bz n A]=pure (.bl true):=by
 have ln:(rd (bR [nT a]):DM D)=pure (nD n):=by simp [nT,nD,ha]
 have ar:nF [bz n A,nD n]=pure (.bl true):=by
  rw [w6]
  exact Bs (by simp [dg]) (fun r hr=>kO hr) hn
 have lm:(dg n A).length=n:=by simp [dg]
 refine jG fun M=>?_
 unfold v8 uG qu;dsimp only
 refine Rn.call rfl ?_
 refine aD fun K hK=>?_
 simp [ln]
 rw [hK];clear hK K
 refine aD fun K hK=>?_
 simp [ar]
 rw [hK];clear hK K
 refine aD fun K hK=>?_
 simp [dN (n:=n) (by omega),lA]
 have ce:aM 1 [2] [some (nT a),some (nT b),some (bz n A),some (nD n),none]=[none,some (bz n A)]:=rfl
 rw [ce,cZ nD (fun y=>nT ((List.range n).map fun x=>A x y)) (by simp;omega) fun y hy=>?_]
 rotate_left
 ·have hy:=List.mem_range.mp hy
  have ce2:aM 1 [0] [some (nD y),some (bz n A)]=[none,some (nD y)]:=rfl
  simp [jy,lA,ce2]
  rw [cZ nT (fun r=>nD (ga r y)) (by omega) fun r hr=>by simp [rH (l:=r) (i:=y) (by rw [kO hr];exact hy)]]
  have e:=congrArg (List.map nD) (tU (A:=A) hy)
  rw [List.map_map] at e
  simp
  exact congrArg (fun l=>(pure (D.tup l):DM D)) e
 simp
 rw [hK];clear hK K
 simp [jy,lA]
 have c1:∀ z:D,aM 1 [] [some (nT a),some (nT b),some (bz n A),some (nD n),some z]=[none]:=fun _=>rfl
 simp only [c1]
 rw [cZ nT (fun r=>nD r.sum) (by omega) fun r hr=>by simp]
 have e1:(dg n A).map (fun r=>nD r.sum)=a.map nD:=by
  have e:=congrArg (List.map nD) ((oJ J.row).trans (fM ha))
  rw [List.map_map] at e
  exact e
 have al:∀ l:List D,(rd (nH (.lst l)):DM Itn)=pure (.fix l):=fun _=>rfl
 have e2:((List.range n).map fun y=>nT ((List.range n).map fun x=>A x y))=((List.range n).map fun y=>(List.range n).map fun x=>A x y).map nT:=by rw [List.map_map];rfl
 have e3:(((List.range n).map fun y=>(List.range n).map fun x=>A x y)).map (fun r=>nD r.sum)=b.map nD:=by
  rw [List.map_map,←fM hb,List.map_map]
  exact List.map_congr_left fun y hy=>by show nD ((List.range n).map fun x=>A x y).sum=nD _;rw [dH,J.col y (List.mem_range.mp hy)]
 simp only [au,qw,e1,pQ,pP,al,e2,lA]
 simp only [decide_true,if_true]
 rw [cZ nT (fun r=>nD r.sum) (by simp;omega) fun r hr=>by simp]
 simp only [au,e3,pQ]
 exact Rn.pure ⟨_,rfl,by simp,rfl⟩
noncomputable def vY:=aL 2 3 (jA rW v8)
theorem iZ {α:Type} (f g:α->D):∀ l:List α,pairs (l.map f) (l.map g)=l.map fun q=>.tup [f q,g q]
 | []=>rfl
 | a::l=>by simp [pairs,iZ f g l]
theorem vJ {R:List (List Nat)}{W:Nat} (h:WK R W) {q:Nat×Nat} (hq:q∈prs R.length):Joins R.length (fn (gr R q.1)) (fn (gr R q.2)) (mF R q)∧parts R.length (mF R q)=qb R.length (fn (gr R q.1)) (fn (gr R q.2)):=by
 have hm:=mJ hq
 have l1:(gr R q.1).length=R.length:=h.row _ (gr_mem (by omega))
 have l2:(gr R q.2).length=R.length:=h.row _ (gr_mem (by omega))
 have e:S R.length (fn (gr R q.1))=S R.length (fn (gr R q.2)):=by
  have s1:=dH (fn (gr R q.1)) R.length
  have s2:=dH (fn (gr R q.2)) R.length
  rw [fM l1,h.sum _ (gr_mem (by omega))] at s1
  rw [fM l2,h.sum _ (gr_mem (by omega))] at s2
  omega
 exact ⟨(tO e).1,yN e⟩
noncomputable def Gr (M0:Mo) (i:Nat) (δ:aa) (l:List D) (M:Mo):Prop:=(∃ z y x,δ=[z,y,x])∧l=List.replicate i (.bl true)∧M=M0
theorem Bp {R:List (List Nat)}{W:Nat} (h:WK R W) (hn:R.length≤6):vY [nM R,rule R]=pure (.bl true):=by
 have pl:=nq hn
 have a:(rd (eE [rule R,.ty "tuple"]):DM D)=pure (.bl true):=fL (t := "tuple") (fun _=>rfl) (by decide)
 have l1:(rd (bR [rule R]):DM D)=pure (nD (prs R.length).length):=by simp [rule,nD]
 have l2:(rd (bR [.lst ((prs R.length).map (jt R))]):DM D)=pure (nD (prs R.length).length):=by simp [nD]
 simp [vY,jA,xF hn,a,l1,l2,iG,lA]
 have zz:oX [D.lst ((prs R.length).map (jt R)),rule R]=some (.fix ((prs R.length).map fun q=>.tup [jt R q,bz R.length (mF R q)])):=by
  show some (Itn.fix (pairs _ _))=_
  rw [iZ]
 have ce:aM 3 [] [some (nM R),some (rule R),some (D.lst ((prs R.length).map (jt R)))]=[none,none,none]:=rfl
 simp only [zz,ce,cO,au,lA]
 refine jG fun M=>?_
 refine Rn.bind (dC (cN (Gr M) _ 0 _ [] M ⟨⟨_,_,_,rfl⟩,rfl,rfl⟩ fun j d δ l M1 hj hI=>?_)) fun p M1 hI=>?_
 ·obtain ⟨⟨z,y,x,rfl⟩,rfl,rfl⟩:=hI
  rw [Nat.zero_add]
  rw [List.getElem?_map] at hj
  obtain ⟨q,hq,rfl⟩:=Option.map_eq_some_iff.mp hj
  have hm:=mJ (List.mem_of_getElem? hq)
  have l1:(gr R q.1).length=R.length:=h.row _ (gr_mem (by omega))
  have l2:(gr R q.2).length=R.length:=h.row _ (gr_mem (by omega))
  have jo:=Cw l1 l2 (by omega) (vJ h (List.mem_of_getElem? hq)).1
  have hj':=(List.getElem?_eq_some_iff.mp hq).1
  have lt:j<sizeLine:=by show _<2 ^ 24;omega
  simp [jt,aV,jo,lt]
  exact Rn.pure ⟨⟨_,_,_,rfl⟩,by simp [List.replicate_succ'],rfl⟩
 ·obtain ⟨_,e1,rfl⟩:=hI
  rw [e1,ik]
  exact Rn.pure ⟨rfl,rfl⟩
noncomputable def v6:=aL 2 2 (qG vY)
theorem Ce {R:List (List Nat)}{W:Nat} (h:WK R W) (hn:R.length≤6):v6 [lB R W,rule R]=pure (.bl true):=by
 simp [v6,qG,tu,Bp h hn]
noncomputable def wg:=aL 1 1 lY
theorem CJ (n:Nat):wg [nD n]=pure (.bl true):=by
 have a:(rd (eE [nD n,.ty "int"]):DM D)=pure (.bl true):=fL (t := "int") (fun _=>rfl) (by decide)
 have b:(rd (eE [nD n,.ty "bool"]):DM D)=pure (.bl false):=fL (t := "int") (fun _=>rfl) (by decide)
 simp [wg,lY,a,b]
theorem uZ {a b:List D} (h:a.length + b.length≤1000000):(rd (eU (.lst a) (.lst b)):DM D)=pure (.lst (a++b)):=dG fun M=>by
 have:fO (a++b)=true:=by unfold fO;exact decide_eq_true (by show (a++b).length≤2 ^ 24;rw [List.length_append];omega)
 simp [eU,bc,CG,this]
end K
namespace K
open PySem L2 L3 N10 LB
def gH (n:Nat):List (Nat×Nat):=(List.range n).flatMap fun y=>(List.range y).map fun x=>(x,y)
def ud (q:Nat×Nat):List Int:=[(q.1:Int),(q.2:Int)]
noncomputable def fV (q:Nat×Nat):D:=.tup [nD q.1,nD q.2]
theorem Bc:∀ n,n≤6->qx ((gH n).map ud)=(prs n).map ud:=by
 intro n hn
 match n,hn with
 | 0,_=>decide
 | 1,_=>decide
 | 2,_=>decide
 | 3,_=>decide
 | 4,_=>decide
 | 5,_=>decide
 | 6,_=>decide
 | n + 7,h=>omega
theorem uH:∀ n,n≤6->(gH n).length≤15:=by
 intro n hn
 match n,hn with
 | 0,_=>decide
 | 1,_=>decide
 | 2,_=>decide
 | 3,_=>decide
 | 4,_=>decide
 | 5,_=>decide
 | 6,_=>decide
 | n + 7,h=>omega
theorem yw (i:Nat):gH (i + 1)=gH i++(List.range i).map fun x=>(x,i):=by simp [gH,List.range_succ]
noncomputable def rY:=aL 1 3 lW
noncomputable def GC (n:Nat) (M0:Mo) (i:Nat) (δ:aa) (M:Mo):Prop:=(∃ z,δ=[some (nD n),some (.lst ((gH i).map fV)),z])∧M=M0
theorem xG {n:Nat} (hn:n≤6):rY [nD n]=pure (.lst ((prs n).map fV)):=by
 refine jG fun M=>?_
 unfold rY lW iC;dsimp only
 refine Rn.call rfl ?_
 have st:cA 3 [nD n]=[some (nD n),none,none]:=rfl
 rw [st]
 have m0:lG []=pure (.lst []):=gU (by simp)
 refine aD fun K hK=>?_
 simp [m0]
 rw [hK];clear hK K
 refine aD fun K hK=>?_
 simp [dN (n:=n) (by omega),fF]
 refine Rn.bind (bQ (GC n M) _ 0 _ _ ⟨⟨none,rfl⟩,rfl⟩ (fun j d δ M1 hj hI=>?_)) (fun r M1 hI=>?_)
 ·obtain ⟨⟨z,rfl⟩,rfl⟩:=hI
  obtain ⟨hj',rfl⟩:=kZ hj
  rw [Nat.zero_add]
  have ce:∀ L:D,aM 1 [2] [some (nD n),some L,some (nD j)]=[none,some (nD j)]:=fun _=>rfl
  simp [dN (n:=j) (by omega),lA,ce]
  rw [cZ nD (fun x=>fV (x,j)) (by simp;omega) fun x hx=>by simp [fV];exact rJ (by simp)]
  have cl:=uH j (by omega)
  simp [uZ (a:=(gH j).map fV) (b:=(List.range j).map fun x=>fV (x,j)) (by simp;omega)]
  refine Rn.pure ⟨_,rfl,⟨some (nD j),?_⟩,rfl⟩
  rw [yw,List.map_append,List.map_map]
  rfl
 ·obtain ⟨δ',rfl,⟨z,rfl⟩,rfl⟩:=hI
  rw [hK];clear hK K
  rw [List.length_map,List.length_range,Nat.zero_add]
  have cl:=uH n (by omega)
  have so:rM [.lst ((gH n).map fV)] M1=some (.lst ((prs n).map fV)):=by
   have e:(gH n).map fV=((gH n).map ud).map tupI:=by rw [List.map_map];rfl
   have e2:(prs n).map fV=((prs n).map ud).map tupI:=by rw [List.map_map];rfl
   have tm:jP (((gH n).map ud).map tupI)=some ((gH n).map ud):=p7 fun t ht=>by obtain ⟨q,_,rfl⟩:=List.mem_map.mp ht;simp [ud]
   rw [e,e2]
   simp only [rM,bc,Option.bind_some,tm]
   rw [if_pos (by simp;omega),Bc n hn]
  simp
  refine Rn.bindRd _ so ?_
  exact Rn.pure ⟨_,rfl,rfl,rfl⟩
noncomputable def v5:=aL 3 4 (gK wg)
noncomputable def Gu (e:aa) (M0:Mo) (i:Nat) (δ:aa) (M:Mo):Prop:=(∃ z,δ=e++[z])∧M=M0
theorem BZ {a b:List Nat}{n:Nat}{A:Nat->Nat->Nat} (ha:a.length=n) (hb:b.length=n) (hn:n≤25) (J:Joins n (fn a) (fn b) A):v5 [nT a,nT b,bz n A]=pure (.bl true):=by
 have t1:(rd (eE [bz n A,.ty "tuple"]):DM D)=pure (.bl true):=fL (t := "tuple") (fun _=>rfl) (by decide)
 have t2:∀ r,(rd (eE [nT r,.ty "tuple"]):DM D)=pure (.bl true):=fun x=>fL (t := "tuple") (fun _=>rfl) (by decide)
 have k1:(rd (bR [bz n A]):DM D)=pure (nD n):=by simp [bz,nD]
 have k2:(rd (bR [nT a]):DM D)=pure (nD n):=by simp [nT,nD,ha]
 have lm:(dg n A).length=n:=by simp [dg]
 refine jG fun M=>?_
 unfold v5 gK eF;dsimp only
 refine Rn.call rfl ?_
 have st:cA 4 [nT a,nT b,bz n A]=[some (nT a),some (nT b),some (bz n A),none]:=rfl
 rw [st]
 refine aD fun K hK=>?_
 simp [t1,k1,k2,iG]
 rw [hK];clear hK K
 refine aD fun K hK=>?_
 simp [jy,fF]
 refine Rn.bind (bQ (Gu [some (nT a),some (nT b),some (bz n A)] M) _ 0 _ _ ⟨⟨none,rfl⟩,rfl⟩ (fun j d δ M1 hj hI=>?_)) (fun r M1 hI=>?_)
 ·obtain ⟨⟨z,rfl⟩,rfl⟩:=hI
  rw [List.getElem?_map] at hj
  obtain ⟨r,hr,rfl⟩:=Option.map_eq_some_iff.mp hj
  have lr:=kO (List.mem_of_getElem? hr)
  have k3:(rd (bR [nT r]):DM D)=pure (nD n):=by simp [nT,nD,lr]
  simp only [List.cons_append,List.nil_append,gb,au,List.set_cons_succ,List.set_cons_zero]
  refine aD fun K hK=>?_
  simp [t2,k2,k3,iG]
  rw [hK];clear hK K
  have ce:aM 1 [] [some (nT a),some (nT b),some (bz n A),some (nT r)]=[none]:=rfl
  have at':o5 (nT r)=some (.fix (r.map nD)):=rfl
  simp [at',lA,ce]
  rw [bj nD (fun _=>false) nD (by omega) (fun m _=>?_) (fun m _ h=>by cases h)]
  rotate_left
  ·have:=CJ m
   have g:(rd (zE (nD m) (.int 0)):DM D)=pure (.bl false):=by
    unfold nD;simp
    rw [decide_eq_false (by omega)]
   simp [this,g]
  have m0:lG []=pure (.lst []):=gU (by simp)
  have ne:(rd (lH (.lst []) (.lst [])):DM D)=pure (.bl false):=dG fun M=>rfl
  have ef:r.filter (fun _=>false)=[]:=List.filter_eq_nil_iff.mpr fun _ _ h=>by cases h
  rw [ef]
  simp [m0,ne]
  exact Rn.pure ⟨_,rfl,⟨_,rfl⟩,rfl⟩
 ·obtain ⟨δ',rfl,⟨z,rfl⟩,rfl⟩:=hI
  rw [hK];clear hK K
  have e1:(dg n A).map (fun r=>nD r.sum)=a.map nD:=by
   have e:=congrArg (List.map nD) ((oJ J.row).trans (fM ha))
   rw [List.map_map] at e
   exact e
  have e3:(List.range n).map (fun y=>nD (S n fun x=>A x y))=b.map nD:=by
   rw [←fM hb,List.map_map]
   exact List.map_congr_left fun y hy=>by show nD _=nD _;rw [J.col y (List.mem_range.mp hy)]
  have neL:∀ l:List Nat,(rd (lH (.lst (l.map nD)) (.lst (l.map nD))):DM D)=pure (.bl false):=fun l=>by
   have:=pQ l l
   rw [decide_eq_true rfl] at this
   refine dG fun M=>?_
   have h2:gA (.lst (l.map nD)) (.lst (l.map nD)) M=some (.bl true):=by
    have:=congrFun this M
    unfold rd at this
    cases h:gA (.lst (l.map nD)) (.lst (l.map nD)) M with
    | none=>rw [h] at this;cases this
    | some d=>rw [h] at this;cases this;rfl
   unfold gA at h2
   unfold lH
   cases h3:eqB (.lst (l.map nD)) (.lst (l.map nD)) with
   | none=>rw [h3] at h2;cases h2
   | some v=>rw [h3] at h2;cases h2;rfl
  have ce:aM 1 [] [some (nT a),some (nT b),some (bz n A),z]=[none]:=rfl
  have ce2:aM 1 [2] [some (nT a),some (nT b),some (bz n A),z]=[none,some (bz n A)]:=rfl
  refine aD fun K hK=>?_
  simp [jy,lA,ce]
  rw [cZ nT (fun r=>nD r.sum) (by omega) fun r hr=>by simp]
  simp only [au,e1,qw,neL,pP]
  simp
  rw [hK];clear hK K
  simp [k2,dN (n:=n) (by omega),lA,ce2]
  rw [cZ nD (fun y=>nD (S n fun x=>A x y)) (by simp;omega) fun y hy=>?_]
  ·simp [e3,qw,pQ]
   exact Rn.pure ⟨_,rfl,rfl,rfl⟩
  ·have hy:=List.mem_range.mp hy
   have ce3:aM 1 [0] [some (nD y),some (bz n A)]=[none,some (nD y)]:=rfl
   simp [jy,lA,ce3]
   rw [cZ nT (fun r=>nD (ga r y)) (by omega) fun r hr=>by simp [rH (l:=r) (i:=y) (by rw [kO hr];exact hy)]]
   have e:=congrArg (List.map nD) (tU (A:=A) hy)
   rw [List.map_map] at e
   have e:(dg n A).map (fun r=>nD (ga r y))=((List.range n).map fun x=>A x y).map nD:=e
   rw [e]
   simp only [au,pX,dH]
noncomputable def rP:=aL 2 3 (jz rY v5)
noncomputable def Gw (d:D) (M0:Mo) (i:Nat) (δ:aa) (l:List D) (M:Mo):Prop:=(∃ z y x,δ=[z,y,x,some d])∧l=List.replicate i (.bl true)∧M=M0
theorem Aa {R:List (List Nat)}{W:Nat} (h:WK R W) (hn:R.length≤6):rP [nM R,rule R]=pure (.bl true):=by
 have pl:=nq hn
 have a:(rd (eE [rule R,.ty "tuple"]):DM D)=pure (.bl true):=fL (t := "tuple") (fun _=>rfl) (by decide)
 have l0:(rd (bR [nM R]):DM D)=pure (nD R.length):=by simp [nM,nD]
 have l1:(rd (bR [rule R]):DM D)=pure (nD (prs R.length).length):=by simp [rule,nD]
 have l2:(rd (bR [.lst ((prs R.length).map fV)]):DM D)=pure (nD (prs R.length).length):=by simp [nD]
 simp [rP,jz,l0,xG hn,a,l1,l2,iG,lA]
 have zz:oX [D.lst ((prs R.length).map fV),rule R]=some (.fix ((prs R.length).map fun q=>.tup [fV q,bz R.length (mF R q)])):=by
  show some (Itn.fix (pairs _ _))=_
  rw [iZ]
 have ce:aM 3 [0] [some (nM R),some (rule R),some (D.lst ((prs R.length).map fV))]=[none,none,none,some (nM R)]:=rfl
 simp only [zz,ce,cO,au,lA]
 refine jG fun M=>?_
 refine Rn.bind (dC (cN (Gw (nM R) M) _ 0 _ [] M ⟨⟨_,_,_,rfl⟩,rfl,rfl⟩ fun j d δ l M1 hj hI=>?_)) fun p M1 hI=>?_
 ·obtain ⟨⟨z,y,x,rfl⟩,rfl,rfl⟩:=hI
  rw [Nat.zero_add]
  rw [List.getElem?_map] at hj
  obtain ⟨q,hq,rfl⟩:=Option.map_eq_some_iff.mp hj
  have hm:=mJ (List.mem_of_getElem? hq)
  have l1:(gr R q.1).length=R.length:=h.row _ (gr_mem (by omega))
  have l2:(gr R q.2).length=R.length:=h.row _ (gr_mem (by omega))
  have jo:=BZ l1 l2 (by omega) (vJ h (List.mem_of_getElem? hq)).1
  have hj':=(List.getElem?_eq_some_iff.mp hq).1
  have lt:j<sizeLine:=by show _<2 ^ 24;omega
  simp [fV,aV,jo,lt,gC (R:=R) (i:=q.1) (by omega),gC (R:=R) (i:=q.2) (by omega)]
  exact Rn.pure ⟨⟨_,_,_,rfl⟩,by simp [List.replicate_succ'],rfl⟩
 ·obtain ⟨_,e1,rfl⟩:=hI
  rw [e1,ik]
  exact Rn.pure ⟨rfl,rfl⟩
noncomputable def rR:=aL 1 1 lD
theorem rm {f g:Nat->Nat}:∀ {n:Nat},(∀ x,x<n->g x≤f x)->S n (fun x=>f x - g x)=S n f - S n g∧S n g≤S n f
 | 0,_=>⟨rfl,Nat.le_refl _⟩
 | n + 1,h=>by
   have ih:=rm (f:=f) (g:=g) (n:=n) fun x hx=>h x (by omega)
   have:=h n (by omega)
   simp only [S]
   omega
theorem uQ {n:Nat}{A:Nat->Nat->Nat} (hn:n≤25):rR [bz n A]=pure (nD (parts n A)):=by
 have ce:aM 1 [] [some (bz n A)]=[none]:=rfl
 have ce2:aM 1 [0] [some (bz n A)]=[none,some (bz n A)]:=rfl
 have lm:(dg n A).length=n:=by simp [dg]
 have k1:(rd (bR [bz n A]):DM D)=pure (nD n):=by simp [bz,nD]
 simp [rR,lD,jy,lA,ce]
 rw [cZ nT (fun r=>nD r.sum) (by omega) fun r hr=>by simp]
 have e1:(dg n A).map (fun r=>nD r.sum)=((List.range n).map fun x=>S n (A x)).map nD:=by
  have e:=congrArg (List.map nD) (oJ (n:=n) (A:=A) (F:=fun x=>S n (A x)) fun _ _=>rfl)
  rw [List.map_map] at e
  exact e
 simp only [e1,au,pX,k1,dN (n:=n) (by omega),cO,lA,ce2]
 rw [cZ nD (fun x=>nD (A x x)) (by simp;omega) fun x hx=>?_]
 ·have e2:(List.range n).map (fun x=>nD (A x x))=((List.range n).map fun x=>A x x).map nD:=by rw [List.map_map];rfl
  have d:∀ x,x<n->A x x≤S n (A x):=fun x hx=>jT (f:=A x) hx
  obtain ⟨s1,s2⟩:=rm d
  simp only [au,e2,pX,dH]
  rw [iH s2,←s1]
  rfl
 ·have hx:=List.mem_range.mp hx
  have i1:(rd (dI (bz n A) (nD x)):DM D)=pure (.tup (row n (A x))):=pU (i:=x) (by rw [List.getElem?_map,List.getElem?_range hx];rfl)
  simp [i1,pI hx]
end K
namespace K
open PySem L2 L3 N10
structure JH (M0:Mo) (n p:Nat) (g:G) (M:Mo):Prop where
 sb:Sb p M0 M
 pot:cV p M
 left:M[M0.length]?=some (.lst (row n g.L))
 want:M[M0.length + 1]?=some (.lst (row n g.W))
 row:∀ x,x<n->M[M0.length + 2 + x]?=some (.lst (row n (g.A x)))
theorem JH.setA (h:JH M0 n p g M) (hp:p<M0.length) (hx:x<n) (hy:y<n):∃ M',iM (.ref (M0.length + 2 + x)) (nD y) (nD v) M=some (.ok (),M')∧JH M0 n p ⟨cB g.A x y v,g.L,g.W⟩ M':=by
 have hr:=h.row x hx
 have e:=dY (v:=nD v) hr (i:=y) (by simpa [K.row] using hy)
 rw [ie hy] at e
 refine ⟨_,e,Sb.new (p:=p) (.inr h.sb.le) (by omega) Sb.set h.sb,h.pot.sb (q:=M0.length + 2 + x) Sb.set (by omega),?_,?_,fun i hi=>?_⟩
 ·rw [List.getElem?_set_ne (by omega)];exact h.left
 ·rw [List.getElem?_set_ne (by omega)];exact h.want
 ·by_cases e':i=x
  ·subst e'
   rw [List.getElem?_set_self (List.getElem?_eq_some_iff.mp hr).1]
   simp [cB]
  ·rw [List.getElem?_set_ne (by omega),h.row i hi]
   simp [cB,e']
theorem JH.setL (h:JH M0 n p g M) (hp:p<M0.length) (hx:x<n):∃ M',iM (.ref M0.length) (nD x) (nD v) M=some (.ok (),M')∧JH M0 n p ⟨g.A,up g.L x v,g.W⟩ M':=by
 have e:=dY (v:=nD v) h.left (i:=x) (by simpa [K.row] using hx)
 rw [ie hx] at e
 refine ⟨_,e,Sb.new (p:=p) (.inr h.sb.le) (Nat.le_refl _) Sb.set h.sb,h.pot.sb (q:=M0.length) Sb.set (by omega),?_,?_,fun i hi=>?_⟩
 ·rw [List.getElem?_set_self (List.getElem?_eq_some_iff.mp h.left).1]
 ·rw [List.getElem?_set_ne (by omega)];exact h.want
 ·rw [List.getElem?_set_ne (by omega)];exact h.row i hi
theorem JH.setW (h:JH M0 n p g M) (hp:p<M0.length) (hy:y<n):∃ M',iM (.ref (M0.length + 1)) (nD y) (nD v) M=some (.ok (),M')∧JH M0 n p ⟨g.A,g.L,up g.W y v⟩ M':=by
 have e:=dY (v:=nD v) h.want (i:=y) (by simpa [K.row] using hy)
 rw [ie hy] at e
 refine ⟨_,e,Sb.new (p:=p) (.inr h.sb.le) (by omega) Sb.set h.sb,h.pot.sb (q:=M0.length + 1) Sb.set (by omega),?_,?_,fun i hi=>?_⟩
 ·rw [List.getElem?_set_ne (by omega)];exact h.left
 ·rw [List.getElem?_set_self (List.getElem?_eq_some_iff.mp h.want).1]
 ·rw [List.getElem?_set_ne (by omega)];exact h.row i hi
def stepK (g:G) (x y k:Nat):G:=⟨cB g.A x y (g.A x y + k),up g.L x (g.L x - k),up g.W y (g.W y - k)⟩
theorem GX {g:G}{n:Nat}{f s:Nat->Nat} (h:g.Ok n f s) {x y k:Nat} (hx:x<n) (hy:y<n) (k1:k≤g.L x) (k2:k≤g.W y):(stepK g x y k).Ok n f s where
 row:=fun i hi=>by
  have r:=h.row i hi
  show S n (cB g.A x y _ i) + up g.L x _ i=f i
  by_cases e:i=x
  ·subst e
   have:=jU (f:=g.A i) (v:=g.A i y + k) hy
   rw [cC]
   simp only [cB,if_true]
   omega
  ·rw [dJ e]
   simp only [cB,if_neg e]
   exact r
 col:=fun j hj=>by
  have r:=h.col j hj
  show S n (fun i=>cB g.A x y _ i j) + up g.W y _ j=s j
  by_cases e:j=y
  ·subst e
   have q:S n (fun i=>cB g.A x j (g.A x j + k) i j)=S n (up (fun i=>g.A i j) x (g.A x j + k)):=cW fun i _=>by
    by_cases k:i=x
    ·subst k;simp [cB,cC]
    ·rw [dJ k];simp [cB,k]
   have:=jU (f:=fun i=>g.A i j) (v:=g.A x j + k) hx
   rw [q,cC]
   omega
  ·have q:S n (fun i=>cB g.A x y (g.A x y + k) i j)=S n (fun i=>g.A i j):=cW fun i _=>by
    by_cases k:i=x
    ·subst k;simp [cB,dJ e]
    ·simp [cB,k]
   rw [q,dJ e];exact r
noncomputable def uD:=aL 3 11 (dU 10000000000 lO)
noncomputable def Fq (M0:Mo) (n:Nat) (rest:aa) (i:Nat) (δ:aa) (l:List D) (M:Mo):Prop:=(∃ z,δ=z::rest)∧l=(List.range i).map (fun x=>D.ref (M0.length + x))∧M.length=M0.length + i∧Ex M0 M∧∀ x,x<i->M[M0.length + x]?=some (.lst (qC n))
noncomputable def Dv (M0:Mo) (rest:aa) (p:Nat->Bool) (i:Nat) (δ:aa) (l:List D) (M:Mo):Prop:=(∃ z,δ=z::rest)∧l=((List.range i).filter p).map nD∧M=M0
theorem pA {ft:aa->DM Bool}{fe:aa->DM D}{rest:aa}{n:Nat}{p:Nat->Bool}{M:Mo}{x:Option D} (hn:n≤1000) (h:∀ j,j<n->Rn (ft (some (nD j)::rest)) M fun b M'=>b=p j∧M'=M) (h2:∀ j,j<n->fe (some (nD j)::rest)=pure (nD j)) :
  Rn (bu (gN 0) ft (aV fe) ((List.range n).map nD) (x::rest) []) M fun q M'=>M'=M∧q.2=((List.range n).filter p).map nD:=by
 refine (cN (Dv M rest p) ((List.range n).map nD) 0 (x::rest) [] M ⟨⟨x,rfl⟩,rfl,rfl⟩ (fun j d δ l M1 hj hI=>?_)).mono fun q M' hI=>?_
 ·obtain ⟨⟨z,rfl⟩,rfl,rfl⟩:=hI
  obtain ⟨hj',rfl⟩:=kZ hj
  have le:=List.length_filter_le p (List.range j)
  rw [List.length_range] at le
  have lt:(((List.range (0 + j)).filter p).map nD).length<sizeLine:=by
   show _<2 ^ 24
   rw [List.length_map,Nat.zero_add]
   omega
  rw [gb,au]
  refine Rn.bind (h j hj') fun b M' ⟨e1,e2⟩=>?_
  subst e1 e2
  rw [Nat.zero_add] at lt ⊢
  cases hp:p j with
  | true=>
    rw [if_pos rfl]
    unfold aV
    show Rn (fe (some (nD j)::rest) >>= _) _ _
    rw [h2 j hj',au,if_pos lt]
    exact Rn.pure ⟨⟨_,rfl⟩,by simp [List.range_succ,List.filter_append,hp],rfl⟩
  | false=>
    rw [if_neg (by decide)]
    exact Rn.pure ⟨⟨_,rfl⟩,by simp [List.range_succ,List.filter_append,hp],rfl⟩
 ·obtain ⟨_,e1,e2⟩:=hI
  exact ⟨e2,by rw [e1];simp⟩
theorem Bh {q n:Nat}{L:Nat->Nat}{M:Mo} (h:M[q]?=some (.lst (row n L))):oW [.ref q] M=some (nD (S n L)):=by
 have e:gW (.ref q) M=some (((List.range n).map L).map nD):=by simp only [gW,bc,h];rfl
 show (gW (.ref q) M).bind _=_
 have gen:∀ l:List Nat,(Option.map (fun ns:List Int=>D.int ns.sum) (intsOf (l.map nD)))=some (nD l.sum):=fun l=>by rw [iW];simp [nD,lu]
 rw [e,Option.bind_some,gen,dH]
theorem uP {q n:Nat}{L:Nat->Nat}{M:Mo} (h:M[q]?=some (.lst (row n L))):bR [.ref q] M=some (nD n):=by
 show (bc (.ref q) M).map _=_
 simp only [bc,h]
 simp [row,nD]
theorem gY {q n x:Nat}{L:Nat->Nat}{M:Mo} (h:M[q]?=some (.lst (row n L))) (hx:x<n):dI (.ref q) (nD x) M=some (nD (L x)):=fJ (i:=x) h (gD hx)
theorem zq {n:Nat}{f:Nat->Nat} (h:0<S n f):∃ x,x<n∧0<f x:=by
 induction n with
 | zero=>simp [S] at h
 | succ n ih=>
   by_cases c:0<f n
   ·exact ⟨n,by omega,c⟩
   ·obtain ⟨x,h1,h2⟩:=ih (by simp [S] at h;omega)
    exact ⟨x,by omega,h2⟩
theorem uE {n:Nat}{f:Nat->Nat} (h:S n f=0) {x:Nat} (hx:x<n):f x=0:=by
 have:=jT (f:=f) hx
 omega
structure Jn (M0:Mo) (n p:Nat) (a b:List Nat) (g:G) (M:Mo):Prop where
 jh:JH M0 n p g M
 ok:g.Ok n (fn a) (fn b)
 eq:S n g.L=S n g.W
noncomputable def zm (M0:Mo) (n p q:Nat) (a b:List Nat) (m:Nat) (δ:aa) (M:Mo):Prop:=∃ z6 z7 z8 z9 z10 g,δ=[some (.ref p),some (nT a),some (nT b),some (.ref q),some (.ref (q + 1)),some (refs (q + 2) n),z6,z7,z8,z9,z10]∧Jn M0 n p a b g M∧m=S n g.L
noncomputable def Gx (M0:Mo) (n p q:Nat) (a b:List Nat) (δ:aa) (M:Mo):Prop:=∃ z6 z7 z8 z9 z10 g,δ=[some (.ref p),some (nT a),some (nT b),some (.ref q),some (.ref (q + 1)),some (refs (q + 2) n),z6,z7,z8,z9,z10]∧Jn M0 n p a b g M∧S n g.L=0
theorem tE {a:List Nat}{n:Nat} (h:a.length=n):S n (fn a)=a.sum:=by
 rw [←dH,fM h]
theorem Cu {a b:List Nat}{n p:Nat}{M:Mo} (ha:a.length=n) (hb:b.length=n) (hn:n≤25) (se:a.sum=b.sum) (sl:a.sum≤9000000000) (hp:cV p M) :
  Rn (uD [.ref p,nT a,nT b]) M fun d M'=>∃ A,d=bz n A∧Joins n (fn a) (fn b) A∧cV p M'∧Sb p M M':=by
 unfold uD dU fZ;dsimp only
 refine Rn.call rfl ?_
 have st:cA 11 [D.ref p,nT a,nT b]=[some (.ref p),some (nT a),some (nT b),none,none,none,none,none,none,none,none]:=rfl
 rw [st]
 refine aD fun K hK=>?_
 have ls:∀ c:List Nat,(rd (m8 [nT c]):DM (List D))=pure (c.map nD):=fun c=>dG fun M=>rfl
 have at':o5 (nT a)=some (.fix (a.map nD)):=rfl
 have m0:lG [.int 0]=pure (.lst [.int 0]):=gU (by simp)
 have la:(rd (bR [nT a]):DM D)=pure (nD n):=by simp [nT,nD,ha]
 simp [ls,at',lA]
 refine Rn.eQ (by simp;omega) ?_
 refine Rn.eQ (by simp;omega) ?_
 have ce:aM 1 [1] [some (D.ref p),some (nT a),some (nT b),none,none,none,none,none,none,none,none]=[none,some (nT a)]:=rfl
 rw [ce]
 have ra:a.map nD=row n (fn a):=by unfold row;rw [fM ha]
 have rb:b.map nD=row n (fn b):=by unfold row;rw [fM hb]
 have hM1:(M++[DO.lst (a.map nD)]++[DO.lst (b.map nD)]).length=M.length + 2:=by simp
 have sA:(M++[DO.lst (a.map nD)]++[DO.lst (b.map nD)])[M.length]?=some (.lst (row n (fn a))):=by rw [←ra];simp
 have sB:(M++[DO.lst (a.map nD)]++[DO.lst (b.map nD)])[M.length + 1]?=some (.lst (row n (fn b))):=by rw [←rb];simp
 have eM1:Ex M (M++[DO.lst (a.map nD)]++[DO.lst (b.map nD)]):=⟨by simp,fun q hq=>by rw [List.append_assoc,List.getElem?_append_left hq]⟩
 have e1:(M++[DO.lst (a.map nD)]).length=M.length + 1:=by simp
 rw [e1]
 revert hM1 sA sB eM1
 generalize M++[DO.lst (a.map nD)]++[DO.lst (b.map nD)]=M1
 intro hM1 sA sB eM1
 refine Rn.bind (dC (cN (Fq M1 n [some (nT a)]) (a.map nD) 0 _ [] M1 ⟨⟨none,rfl⟩,rfl,rfl,Ex.refl,fun x h=>by omega⟩ (fun j d δ l M2 hj hI=>?_))) fun pp M2 hI=>?_
 ·obtain ⟨⟨z,rfl⟩,rfl,hl,he,hr⟩:=hI
  have hj':j<n:=by
   have:=(List.getElem?_eq_some_iff.mp hj).1
   rw [List.length_map] at this
   omega
  have lt:j<sizeLine:=by show j<2 ^ 24;omega
  rw [Nat.zero_add] at hl hr ⊢
  simp [aV,m0,la]
  refine oM (by omega) ?_
  simp [lt]
  refine Rn.pure ⟨⟨_,rfl⟩,?_,by simp [hl];omega,⟨by simp;have:=he.le;omega,fun q hq=>by rw [List.getElem?_append_left (by omega)];exact he.keep q hq⟩,fun x hx=>?_⟩
  ·rw [List.range_succ,List.map_append,hl];simp
  ·by_cases e:x=j
   ·subst e
    rw [show M1.length + x=M2.length by omega,List.getElem?_concat_length];simp [qC]
   ·rw [List.getElem?_append_left (by omega)]
    exact hr x (by omega)
 obtain ⟨_,e2,l2,x2,r2⟩:=hI
 rw [List.length_map,Nat.zero_add,ha] at e2 l2 r2
 rw [hM1] at e2 l2 r2
 have jn0:Jn M n p a b ⟨fun _ _=>0,fn a,fn b⟩ M2:=by
  refine ⟨⟨(eM1.trans x2).sb,hp.ex (eM1.trans x2),?_,?_,fun x hx=>?_⟩,⟨fun x hx=>?_,fun y hy=>?_⟩,?_⟩
  ·exact (x2.keep _ (by omega)).trans sA
  ·exact (x2.keep _ (by omega)).trans sB
  ·show _=some (DO.lst (_root_.K.row n fun _=>0))
   rw [r2 x hx,ut]
  ·show S n (fun _=>0) + fn a x=fn a x
   rw [gm fun _ _=>rfl];omega
  ·show S n (fun _=>0) + fn b y=fn b y
   rw [gm fun _ _=>rfl];omega
  ·show S n (fn a)=S n (fn b)
   rw [tE ha,tE hb,se]
 have mt:xg [.ref M.length,.ref (M.length + 1),.lst pp.2]=pure (.tup [.ref M.length,.ref (M.length + 1),.lst pp.2]):=rJ (by simp)
 simp [mt]
 rw [e2]
 have er:D.lst ((List.range n).map fun x=>D.ref (M.length + 2 + x))=refs (M.length + 2) n:=rfl
 rw [er,hK];clear hK K
 have hpl:=hp.lt
 refine aD fun K hK=>?_
 refine Rn.bind (qY (lQ:=Gx M n p M.length a b) (zm M n p M.length a b) (fun m δ M3 hI=>?_) 10000000000 (S n (fn a)) _ M2 (by rw [tE ha];omega) ⟨_,_,_,_,_,_,rfl,jn0,rfl⟩) fun r M3 hI=>?_
 ·obtain ⟨z6,z7,z8,z9,z10,g,rfl,jn,rfl⟩:=hI
  refine ⟨decide (0<S n g.L),?_,fun hb=>?_,fun hb=>⟨_,_,_,_,_,g,rfl,jn,by simpa using hb⟩⟩
  ·have s1:=Bh jn.jh.left
   have gt:(rd (qL (nD (S n g.L)) (.int 0)):DM D)=pure (.bl (decide (0<S n g.L))):=uo (S n g.L) 0
   simp
   show DM.bind (rd (oW [D.ref M.length])) _ M3=_
   unfold DM.bind
   have:rd (oW [D.ref M.length]) M3=some (.ok (nD (S n g.L)),M3):=by unfold rd;rw [s1];rfl
   rw [this]
   show ((rd (qL (nD (S n g.L)) (.int 0)):DM D) >>= iR) M3=_
   rw [gt];rfl
  ·have hpos:0<S n g.L:=by simpa using hb
   obtain ⟨x0,x0n,x0p⟩:=zq hpos
   obtain ⟨y0,y0n,y0p⟩:=zq (n:=n) (f:=g.W) (by rw [←jn.eq];exact hpos)
   have hQ:∀ δ' M' m',m'<S n g.L->zm M n p M.length a b m' δ' M'->(fun (r:Fl) (M':Mo)=>∃ δ' m',r=.nx δ'∧m'<S n g.L∧zm M n p M.length a b m' δ' M') (.nx δ') M':=fun δ' M' m' h1 h2=>⟨δ',m',rfl,h1,h2⟩
   revert hQ
   generalize (fun (r:Fl) (M':Mo)=>∃ δ' m',r=.nx δ'∧m'<S n g.L∧zm M n p M.length a b m' δ' M')=Q
   intro hQ
   clear hK K
   have rd1:∀ (q:Nat) (L:Nat->Nat) (M4:Mo),M4[q]?=some (.lst (_root_.K.row n L))->∀ j,j<n->Rn (rd (dI (.ref q) (nD j)) >>= fun a=>rd (qL a (.int 0)) >>= iR) M4 fun b M'=>b=decide (0<L j)∧M'=M4:=fun q L M4 h j hj=>by
    refine Rn.bindRd _ (gY h hj) ?_
    have gt:(rd (qL (nD (L j)) (.int 0)):DM D)=pure (.bl (decide (0<L j))):=uo (L j) 0
    simp [gt]
    exact Rn.pure ⟨rfl,rfl⟩
   refine aD fun K hK=>?_
   simp
   refine Rn.bindRd _ (uP jn.jh.left) ?_
   have c1:aM 1 [3] [some (D.ref p),some (nT a),some (nT b),some (D.ref M.length),some (D.ref (M.length + 1)),some (refs (M.length + 2) n),z6,z7,z8,z9,z10]=[none,some (.ref M.length)]:=rfl
   simp [dN (n:=n) (by omega),lA,c1]
   refine Rn.bind (dC (pA (rest:=[some (.ref M.length)]) (p:=fun x=>decide (0<g.L x)) (by omega) (fun j hj=>by simpa using rd1 _ _ _ jn.jh.left j hj) (fun j hj=>by simp))) fun p1 M4 ⟨eM,ep⟩=>?_
   subst eM
   rw [ep,hK];clear hK K
   refine aD fun K hK=>?_
   simp
   refine Rn.bindRd _ (uP jn.jh.want) ?_
   have c2:∀ d,aM 1 [4] [some (D.ref p),some (nT a),some (nT b),some (D.ref M.length),some (D.ref (M.length + 1)),some (refs (M.length + 2) n),some d,z7,z8,z9,z10]=[none,some (.ref (M.length + 1))]:=fun _=>rfl
   simp [dN (n:=n) (by omega),lA,c2]
   refine Rn.bind (dC (pA (rest:=[some (.ref (M.length + 1))]) (p:=fun x=>decide (0<g.W x)) (by omega) (fun j hj=>by simpa using rd1 _ _ _ jn.jh.want j hj) (fun j hj=>by simp))) fun p2 M5 ⟨eM,ep2⟩=>?_
   subst eM
   rw [ep2,hK];clear hK K
   have fl1:=List.length_filter_le (fun x=>decide (0<g.L x)) (List.range n)
   have fl2:=List.length_filter_le (fun x=>decide (0<g.W x)) (List.range n)
   rw [List.length_range] at fl1 fl2
   have ml1:x0∈(List.range n).filter fun x=>decide (0<g.L x):=List.mem_filter.mpr ⟨List.mem_range.mpr x0n,by simpa using x0p⟩
   have ml2:y0∈(List.range n).filter fun x=>decide (0<g.W x):=List.mem_filter.mpr ⟨List.mem_range.mpr y0n,by simpa using y0p⟩
   have mm1:∀ i,i∈(List.range n).filter (fun x=>decide (0<g.L x))->i<n∧0<g.L i:=fun i hi=>by
    obtain ⟨h1,h2⟩:=List.mem_filter.mp hi
    exact ⟨List.mem_range.mp h1,by simpa using h2⟩
   have mm2:∀ i,i∈(List.range n).filter (fun x=>decide (0<g.W x))->i<n∧0<g.W i:=fun i hi=>by
    obtain ⟨h1,h2⟩:=List.mem_filter.mp hi
    exact ⟨List.mem_range.mp h1,by simpa using h2⟩
   revert fl1 fl2 ml1 ml2 mm1 mm2
   generalize (List.range n).filter (fun x=>decide (0<g.L x))=l1
   generalize (List.range n).filter (fun x=>decide (0<g.W x))=l2
   intro fl1 fl2 ml1 ml2 mm1 mm2
   have ln1:(rd (bR [.lst (l1.map nD)]):DM D)=pure (nD l1.length):=by simp [nD]
   have ln2:(rd (bR [.lst (l2.map nD)]):DM D)=pure (nD l2.length):=by simp [nD]
   refine aD fun K hK=>?_
   simp [ln1,ln2]
   refine Rn.bind (eO jn.jh.pot (List.length_pos_of_mem ml1) (by omega)) fun d6 M6 ⟨u,g6,e6,hp6,s6⟩=>?_
   subst e6
   simp only [pR g6,au]
   refine Rn.bind (eO hp6 (List.length_pos_of_mem ml2) (by omega)) fun d7 M7 ⟨v,g7,e7,hp7,s7⟩=>?_
   subst e7
   simp only [pR g7,au]
   obtain ⟨xn,xp⟩:=mm1 _ (pF g6)
   obtain ⟨yn,yp⟩:=mm2 _ (pF g7)
   generalize ga l1 u=x at xn xp
   generalize ga l2 v=y at yn yp
   have jn7:JH M n p g M7:=⟨jn.jh.sb.trans (s6.trans s7),hp7,(s6.trans s7).at (by omega) jn.jh.left,(s6.trans s7).at (by omega) jn.jh.want,fun i hi=>(s6.trans s7).at (by omega) (jn.jh.row i hi)⟩
   rw [hK];clear hK K
   refine aD fun K hK=>?_
   simp
   refine Rn.bindRd _ (gY jn7.left xn) ?_
   refine Rn.bindRd _ (gY jn7.want yn) ?_
   simp only [uq,au]
   rw [hK];clear hK K
   refine aD fun K hK=>?_
   suffices H:∀ (k:Nat) (M8:Mo),0<k->k≤g.L x->k≤g.W y->JH M n p g M8->Rn (K (.nx [some (.ref p),some (nT a),some (nT b),some (.ref M.length),some (.ref (M.length + 1)),some (refs (M.length + 2) n),some (.lst (l1.map nD)),some (.lst (l2.map nD)),some (nD x),some (nD y),some (nD k)])) M8 Q by
    have d3:=eO (m:=3) jn7.pot (by decide) (by decide)
    simp
    refine Rn.bind d3 fun d8 M8 ⟨t,g8,e8,hp8,s8⟩=>?_
    subst e8
    have jn8:JH M n p g M8:=⟨jn7.sb.trans s8,hp8,s8.at (by omega) jn7.left,s8.at (by omega) jn7.want,fun i hi=>s8.at (by omega) (jn7.row i hi)⟩
    have e0:(rd (gA (nD t) (.int 0)):DM D)=pure (.bl (decide (t=0))):=um t 0
    simp only [e0,au,pP]
    by_cases ht:t=0
    ·have dv:(rd (pD (nD (min (g.L x) (g.W y))) (.int 2)):DM D)=pure (nD (min (g.L x) (g.W y) / 2)):=uh (b:=2) (by decide) (by decide)
     have ad:∀ z:Nat,(rd (eU (.int 1) (nD z)):DM D)=pure (nD (z + 1)):=fun z=>ug z
     simp [ht,dv,ad]
     exact H _ _ (by omega) (by omega) (by omega) jn8
    ·simp [ht]
     exact H _ _ (by omega) (by omega) (by omega) jn8
   intro k M8 k0 k1 k2 jn8
   rw [hK];clear hK K
   refine aD fun K hK=>?_
   have ms:∀ u w:Nat,xg [nD u,nD w]=pure (.tup [nD u,nD w]):=fun u w=>rJ (by simp)
   simp
   refine Rn.bindRd _ (gY jn8.left xn) ?_
   simp only [iH k1,au]
   refine Rn.bindRd _ (gY jn8.want yn) ?_
   simp only [iH k2,au,ms]
   simp
   obtain ⟨M9,e9,jn9⟩:=jn8.setL (v:=g.L x - k) hpl xn
   refine Rn.run e9 ?_
   obtain ⟨M10,e10,jn10⟩:=jn9.setW (v:=g.W y - k) hpl yn
   refine Rn.run e10 ?_
   rw [hK];clear hK K
   simp
   have ir:=jD (b:=M.length + 2) (n:=n) (x:=x) xn
   simp only [ir,au]
   refine Rn.bindRd _ (gY (jn10.row x xn) yn) ?_
   simp only [gB,au]
   obtain ⟨M11,e11,jn11⟩:=jn10.setA (v:=g.A x y + k) hpl xn yn
   refine Rn.run e11 ?_
   have sL:S n (up g.L x (g.L x - k)) + k=S n g.L:=by
    have:=jU (f:=g.L) (v:=g.L x - k) xn
    omega
   have sW:S n (up g.W y (g.W y - k)) + k=S n g.W:=by
    have:=jU (f:=g.W) (v:=g.W y - k) yn
    omega
   have je:=jn.eq
   exact Rn.pure (hQ _ _ (S n (up g.L x (g.L x - k))) (by omega) ⟨_,_,_,_,_,stepK g x y k,rfl,⟨jn11,GX jn.ok xn yn k1 k2,by show S n (up g.L x (g.L x - k))=S n (up g.W y (g.W y - k));omega⟩,rfl⟩)
 ·obtain ⟨δ',rfl,z6,z7,z8,z9,z10,g,rfl,jn,z⟩:=hI
  rw [hK];clear hK K
  have al:(rd (nH (refs (M.length + 2) n)):DM Itn)=pure (.fix ((List.range n).map fun x=>D.ref (M.length + 2 + x))):=rfl
  have c1:aM 1 [] [some (D.ref p),some (nT a),some (nT b),some (D.ref M.length),some (D.ref (M.length + 1)),some (refs (M.length + 2) n),z6,z7,z8,z9,z10]=[none]:=rfl
  simp [al,lA,c1]
  refine Rn.bind (dC (pB (rest:=[]) (hd:=fun x=>D.ref (M.length + 2 + x)) (R:=fun x=>.tup (_root_.K.row n (g.A x))) (by omega) (fun j hj=>?_))) fun q M4 ⟨e4,q4⟩=>?_
  ·simp
   exact Rn.rd (by show (bc (.ref (M.length + 2 + j)) M3).map _=_;simp only [bc,jn.jh.row j hj];rfl) ⟨rfl,rfl⟩
  ·subst e4
   refine Rn.pure ⟨_,rfl,g.A,by rw [q4];rfl,⟨fun x hx=>?_,fun y hy=>?_⟩,jn.jh.pot,jn.jh.sb⟩
   ·have:=jn.ok.row x hx
    have:=uE z hx
    omega
   ·have:=jn.ok.col y hy
    have:=uE (n:=n) (f:=g.W) (by rw [←jn.eq];exact z) hy
    omega
theorem DY:∀ ds M r,uD ds M=some r->∃ n,aL 3 11 (dU n lO) ds M=some r:=fun ds M r h=>⟨_,h⟩
noncomputable def wu:=aL 3 8 (lX rP rY rR uD)
noncomputable def GD (p:Nat) (R:List (List Nat)) (M0:Mo) (i:Nat) (δ:aa) (M:Mo):Prop:=(∃ z3 z4 z5 z6 z7,δ=[some (.ref p),some (nM R),some (rule R),z3,z4,z5,z6,z7])∧cV p M∧Sb p M0 M
noncomputable def GF (p:Nat) (pre:aa) (M0:Mo) (i:Nat) (δ:aa) (M:Mo):Prop:=(∃ z7,δ=pre++[z7])∧cV p M∧Sb p M0 M
theorem Dl {R:List (List Nat)}{W p:Nat}{M:Mo} (h:WK R W) (hn:R.length≤6) (hW:W≤9000000000) (hp:cV p M):Rn (wu [.ref p,nM R,rule R]) M fun d M'=>d=.bl true∧cV p M'∧Sb p M M':=by
 have pl:=nq hn
 have l0:(rd (bR [nM R]):DM D)=pure (nD R.length):=by simp [nM,nD]
 unfold wu lX iD;dsimp only
 refine Rn.call rfl ?_
 have st:cA 8 [D.ref p,nM R,rule R]=[some (.ref p),some (nM R),some (rule R),none,none,none,none,none]:=rfl
 rw [st]
 refine aD fun K hK=>?_
 simp [Aa h hn]
 rw [hK];clear hK K
 refine aD fun K hK=>?_
 have zz:oX [D.lst ((prs R.length).map fV),rule R]=some (.fix ((prs R.length).map fun q=>.tup [fV q,bz R.length (mF R q)])):=by
  show some (Itn.fix (pairs _ _))=_
  rw [iZ]
 simp [l0,xG hn,zz,fF]
 refine Rn.bind (bQ (GD p R M) _ 0 _ _ ⟨⟨_,_,_,_,_,rfl⟩,hp,Sb.refl⟩ (fun j d δ M1 hj hI=>?_)) (fun r M1 hI=>?_)
 ·obtain ⟨⟨z3,z4,z5,z6,z7,rfl⟩,hp1,s1⟩:=hI
  clear hK K
  rw [List.getElem?_map] at hj
  obtain ⟨q,hq,rfl⟩:=Option.map_eq_some_iff.mp hj
  have hqm:=List.mem_of_getElem? hq
  have hm:=mJ hqm
  have l1:(gr R q.1).length=R.length:=h.row _ (gr_mem (by omega))
  have l2:(gr R q.2).length=R.length:=h.row _ (gr_mem (by omega))
  obtain ⟨jo,jp⟩:=vJ h hqm
  simp only [fV,Ge,Ej,Ek,gb,au,List.length_cons,List.length_nil,if_true,Nat.zero_add,List.set_cons_succ,List.set_cons_zero]
  have mo:∀ x y:Nat,(rd (ux (nD x) (nD y)) >>= fun a=>rd (rE [.int 0,a]):DM D)=pure (nD (x - y)):=fun x y=>by
   unfold nD
   simp
   congr 2
   split<;>omega
  refine aD fun K hK=>?_
  have ce:aM 1 [1,4,5] [some (D.ref p),some (nM R),some (rule R),some (bz R.length (mF R q)),some (nD q.1),some (nD q.2),z6,z7]=[none,some (nM R),some (nD q.1),some (nD q.2)]:=rfl
  simp [l0,dN (n:=R.length) (by omega),lA,ce]
  rw [cZ nD (fun x=>nD (fn (gr R q.1) x - fn (gr R q.2) x)) (by simp;omega) fun x hx=>?_]
  rotate_left
  ·have hx:=List.mem_range.mp hx
   have i1:(rd (dI (nT (gr R q.1)) (nD x)):DM D)=pure (nD (fn (gr R q.1) x)):=rH (by omega)
   have i2:(rd (dI (nT (gr R q.2)) (nD x)):DM D)=pure (nD (fn (gr R q.2) x)):=rH (by omega)
   simp [gC (R:=R) (i:=q.1) (by omega),gC (R:=R) (i:=q.2) (by omega),i1,i2,mo]
  have e2:(List.range R.length).map (fun x=>nD (fn (gr R q.1) x - fn (gr R q.2) x))=((List.range R.length).map fun x=>fn (gr R q.1) x - fn (gr R q.2) x).map nD:=by rw [List.map_map];rfl
  have e3:((List.range R.length).map fun x=>fn (gr R q.1) x - fn (gr R q.2) x).sum=qb R.length (fn (gr R q.1)) (fn (gr R q.2)):=dH _ _
  simp only [au,e2,pX,e3]
  rw [hK];clear hK K
  refine aD fun K hK=>?_
  simp [uQ (A:=mF R q) (n:=R.length) (by omega),jp,iG]
  rw [hK];clear hK K
  have rg3:mL [.int 3]=some (.fix ((List.range 3).map nD)):=pW (n:=3) (by omega)
  simp only [rg3,cO,au,fF]
  refine (bQ (GF p [some (.ref p),some (nM R),some (rule R),some (bz R.length (mF R q)),some (nD q.1),some (nD q.2),some (nD (qb R.length (fn (gr R q.1)) (fn (gr R q.2))))] M) _ 0 _ _ ⟨⟨z7,rfl⟩,hp1,s1⟩ (fun i d δ M2 hi hI=>?_)).mono fun r M2 hI=>?_
  ·obtain ⟨⟨z7,rfl⟩,hp2,s2⟩:=hI
   obtain ⟨_,rfl⟩:=kZ hi
   simp [gC (R:=R) (i:=q.1) (by omega),gC (R:=R) (i:=q.2) (by omega)]
   refine Rn.bind (Cu l1 l2 (by omega) (by rw [h.sum _ (gr_mem (by omega)),h.sum _ (gr_mem (by omega))]) (by rw [h.sum _ (gr_mem (by omega))];exact hW) hp2) fun d3 M3 ⟨A,e3,J,hp3,s3⟩=>?_
   subst e3
   have le:=J.least
   have lt:(rd (zE (nD (parts R.length A)) (nD (qb R.length (fn (gr R q.1)) (fn (gr R q.2))))):DM D)=pure (.bl false):=by
    unfold nD
    simp
    rw [decide_eq_false (by omega)]
   simp [uQ (A:=A) (n:=R.length) (by omega),lt]
   exact Rn.pure ⟨_,rfl,⟨_,rfl⟩,hp3,s2.trans s3⟩
  ·obtain ⟨δ',rfl,⟨z,rfl⟩,hp2,s2⟩:=hI
   exact ⟨_,rfl,⟨_,_,_,_,_,rfl⟩,hp2,s2⟩
 ·obtain ⟨δ',rfl,⟨z3,z4,z5,z6,z7,rfl⟩,hp1,s1⟩:=hI
  rw [hK];clear hK K
  simp
  exact Rn.pure ⟨_,rfl,rfl,hp1,s1⟩
noncomputable def xZ:=aL 1 8 (zu rO rT sy vZ v6 wu rN)
noncomputable def Fo (cs:List Int) (i:Nat) (δ:aa) (M:Mo):Prop:=∃ x1 x2 x3 x4 x5 x6 x7,δ=[some (.scr cs),x1,x2,x3,x4,x5,x6,x7]
noncomputable def Fv (cs:List Int) (p:Nat) (i:Nat) (δ:aa) (M:Mo):Prop:=(∃ x1 x3 x4 x5 x6 x7,δ=[some (.scr cs),x1,some (.ref p),x3,x4,x5,x6,x7])∧cV p M
noncomputable def Fj (cs:List Int) (p:Nat) (R:List (List Nat)) (W:Nat) (i:Nat) (δ:aa) (M:Mo):Prop:=(∃ x1 x3 x6 x7,δ=[some (.scr cs),x1,some (.ref p),x3,some (nM R),some (lB R W),x6,x7])∧cV p M
theorem Ac (cs:List Int) (hcs:cs.length≤100000):Rn (xZ [.scr cs]) [] fun d _=>d=.bl true:=by
 unfold xZ zu vP;dsimp only
 refine Rn.call rfl ?_
 have st:cA 8 [D.scr cs]=[some (.scr cs),none,none,none,none,none,none,none]:=rfl
 rw [st]
 obtain ⟨c0,ec⟩:=By cs 0
 have ec':rO [.scr cs,.int 0]=pure (.int c0):=ec
 have l1:∀ x:D,lG [x]=pure (.lst [x]):=fun x=>gU (by simp)
 have cl:(cutD (cs.map D.int) (some 1) (some 3)).length≤100000:=by
  unfold cutD
  rw [List.length_take,List.length_drop,List.length_map]
  omega
 have ci:∀ d∈[.int c0]++cutD (cs.map D.int) (some 1) (some 3),∃ c:Int,d=.int c:=fun d hd=>by
  rcases List.mem_append.mp hd with h | h
  ·exact ⟨c0,List.mem_singleton.mp h⟩
  ·unfold cutD at h
   obtain ⟨c,_,rfl⟩:=List.mem_map.mp (List.mem_of_mem_drop (List.mem_of_mem_take h))
   exact ⟨c,rfl⟩
 have ad:=uZ (a:=[.int c0]) (b:=cutD (cs.map D.int) (some 1) (some 3)) (by simp;omega)
 have a1:(Bu (.int 1):DM (Option Int))=pure (some 1):=rfl
 have a3:(Bu (.int 3):DM (Option Int))=pure (some 3):=rfl
 have rg2:mL [.int 2]=some (.fix ((List.range 2).map nD)):=pW (n:=2) (by omega)
 refine aD fun K hK=>?_
 simp [ec',l1,Es]
 rw [a1,au,a3,au,ad]
 simp only [au,Dd,fF,cO,List.map_cons,List.map_nil]
 clear ad cl
 generalize [.int c0]++cutD (cs.map D.int) (some 1) (some 3)=cl at ci
 refine Rn.bind (bQ (Fo cs) cl 0 _ _ ⟨_,_,_,_,_,_,_,rfl⟩ (fun j d δ M hj hI=>?_)) (fun r M hI=>?_)
 rotate_left
 ·obtain ⟨δ',rfl,_⟩:=hI
  rw [hK]
  exact Rn.pure rfl
 clear hK K
 obtain ⟨c,rfl⟩:=ci d (List.mem_of_getElem? hj)
 obtain ⟨x1,x2,x3,x4,x5,x6,x7,rfl⟩:=hI
 generalize 0 + j + 1=nx
 rw [gb,au]
 refine aD fun K hK=>?_
 simp only [List.set_cons_succ,List.set_cons_zero,List.getElem?_cons_zero,List.getElem?_cons_succ,Option.join_some,cO,au,cY]
 refine Rn.bind (Am c M) fun d M0 ⟨e,hp⟩=>?_
 subst e
 revert hp;generalize M.length=p;intro hp
 try simp only [List.set_cons_succ,List.set_cons_zero,au]
 rw [hK];clear hK K
 simp only [rg2,cO,au,fF]
 refine (bQ (Fv cs p) _ 0 _ _ ⟨⟨_,_,_,_,_,_,rfl⟩,hp⟩ (fun tn d δ M hj2 hI=>?_)).mono (fun r M hI=>?_)
 rotate_left
 ·obtain ⟨δ',rfl,⟨_,_,_,_,_,_,rfl⟩,_⟩:=hI
  exact ⟨_,rfl,_,_,_,_,_,_,_,rfl⟩
 obtain ⟨⟨x1,x3,x4,x5,x6,x7,rfl⟩,hp⟩:=hI
 generalize 0 + tn + 1=nx2
 obtain ⟨_,rfl⟩:=kZ hj2
 rw [gb,au]
 refine aD fun K hK=>?_
 simp only [List.set_cons_succ,List.set_cons_zero,List.getElem?_cons_zero,List.getElem?_cons_succ,Option.join_some,cO,au,cY]
 refine Rn.bind (Ay (tp:=6) hp (by decide) (by decide)) fun d M1 ⟨R,W,e,wk,hR,hW,hp1,_⟩=>?_
 subst e
 try simp only [List.set_cons_succ,List.set_cons_zero,au]
 rw [hK];clear hK K
 have n1:=wk.n1
 refine aD fun K hK=>?_
 simp only [List.getElem?_cons_zero,List.getElem?_cons_succ,Option.join_some,cO,au,Dr wk,List.set_cons_succ,List.set_cons_zero]
 rw [hK];clear hK K
 refine (bQ (Fj cs p R W) _ 0 _ _ ⟨⟨_,_,_,_,rfl⟩,hp1⟩ (fun lp d δ M2 hj3 hI=>?_)).mono (fun r M2 hI=>?_)
 ·obtain ⟨⟨x1,x3,x6,x7,rfl⟩,hp2⟩:=hI
  obtain ⟨_,rfl⟩:=kZ hj3
  rw [gb,au]
  refine aD fun K hK=>?_
  simp only [List.set_cons_succ,List.set_cons_zero,List.getElem?_cons_zero,List.getElem?_cons_succ,Option.join_some,cO,au,cY]
  refine Rn.bind (Bx wk hR) fun d M3 ⟨e3,x3'⟩=>?_
  subst e3
  try simp only [List.set_cons_succ,List.set_cons_zero,au]
  rw [hK];clear hK K
  simp only [List.set_cons_succ,List.set_cons_zero,List.getElem?_cons_zero,List.getElem?_cons_succ,Option.join_some,cO,au,cY]
  refine Rn.bind (Dl wk hR hW (hp2.ex x3')) fun d M4 ⟨e4,hp4,_⟩=>?_
  subst e4
  simp [Ce wk hR]
  have it:(rd (vH (.bl true) (.bl true)):DM D)=pure (.bl false):=rfl
  simp [it]
  exact Rn.pure ⟨_,rfl,⟨_,_,_,_,rfl⟩,hp4⟩
 ·obtain ⟨δ',rfl,⟨_,_,_,_,rfl⟩,hp4⟩:=hI
  exact ⟨_,rfl,⟨_,_,_,_,_,_,rfl⟩,hp4⟩
structure Tops (K:PySem.W.Frag) (mg:Str->Option Value) (CC_Walk:Addr):Prop where
 t_is_whole:DefAt K mg "is_whole" dq
 t_are_weights:DefAt K mg "are_weights" cu
 t_are_rows:DefAt K mg "are_rows" dm
 t_joins:DefAt K mg "joins" gf
 t_least_joining:DefAt K mg "least_joining" bM
 t_pairs_of:DefAt K mg "pairs_of" dB
 t_are_joinings:DefAt K mg "are_joinings" bY
 t_least_joinings:DefAt K mg "least_joinings" bJ
 t_can_be_walked:DefAt K mg "can_be_walked" bL
 t_Walk___init__:MethAt K CC_Walk "__init__" "Walk.__init__" bC
 t_is_rule:DefAt K mg "is_rule" dR
 t_best_rule:DefAt K mg "best_rule" cT
 t__law_cell_at:DefAt K mg "_law_cell_at" bU
 t__law_next:DefAt K mg "_law_next" cQ
 t__law_pen_of:DefAt K mg "_law_pen_of" cj
 t__law_draw:DefAt K mg "_law_draw" cP
 t__law_whole:DefAt K mg "_law_whole" cG
 t__law_row:DefAt K mg "_law_row" dj
 t__law_rows:DefAt K mg "_law_rows" cR
 t__law_pairs:DefAt K mg "_law_pairs" cD
 t__law_joining:DefAt K mg "_law_joining" bW
 t__law_is_joining:DefAt K mg "_law_is_joining" bB
 t__law_is_rule:DefAt K mg "_law_is_rule" bV
 t__law_parted:DefAt K mg "_law_parted" cg
 t__law_right:DefAt K mg "_law_right" cF
 t_law:DefAt K mg "law" lq
 z_all:mg "all"=none
 z_bool:mg "bool"=none
 z_int:mg "int"=none
 z_isinstance:mg "isinstance"=none
 z_len:mg "len"=none
 z_list:mg "list"=none
 z_max:mg "max"=none
 z_min:mg "min"=none
 z_range:mg "range"=none
 z_sorted:mg "sorted"=none
 z_sum:mg "sum"=none
 z_tuple:mg "tuple"=none
 z_zip:mg "zip"=none
theorem Bj {K:PySem.W.Frag}{h:Heap}{mg:Str->Option Value} (X:K.In h) (G:h.Ns mainGlobals mg) {CC_Walk:Addr}
 {f0:Addr}{od0 an0:Option Addr}{sl0:Array (Option Value)}{oc0 kV0 dc0 pm0 cd0 ct0:Value}
 (a0:PySem.W.nsIn K mainGlobals "is_whole"=some (some (.ref f0)))
 (l0:K.lookup f0=some ⟨oc0,od0,.func (PySem.W.fnOf "is_whole" "is_whole" (defArgs dq) (defBody dq) (defScope dq) .none kV0 dc0 pm0 an0 cd0 ct0),sl0⟩) (c0:PySem.W.codeIn K cd0 "is_whole"=true) (k0:PySem.W.keepIn K (.ref f0)=true)
 {f1:Addr}{od1 an1:Option Addr}{sl1:Array (Option Value)}{oc1 kV1 dc1 pm1 cd1 ct1:Value}
 (a1:PySem.W.nsIn K mainGlobals "are_weights"=some (some (.ref f1)))
 (l1:K.lookup f1=some ⟨oc1,od1,.func (PySem.W.fnOf "are_weights" "are_weights" (defArgs cu) (defBody cu) (defScope cu) .none kV1 dc1 pm1 an1 cd1 ct1),sl1⟩) (c1:PySem.W.codeIn K cd1 "are_weights"=true) (k1:PySem.W.keepIn K (.ref f1)=true)
 {f2:Addr}{od2 an2:Option Addr}{sl2:Array (Option Value)}{oc2 kV2 dc2 pm2 cd2 ct2:Value}
 (a2:PySem.W.nsIn K mainGlobals "are_rows"=some (some (.ref f2)))
 (l2:K.lookup f2=some ⟨oc2,od2,.func (PySem.W.fnOf "are_rows" "are_rows" (defArgs dm) (defBody dm) (defScope dm) .none kV2 dc2 pm2 an2 cd2 ct2),sl2⟩) (c2:PySem.W.codeIn K cd2 "are_rows"=true) (k2:PySem.W.keepIn K (.ref f2)=true)
 {f3:Addr}{od3 an3:Option Addr}{sl3:Array (Option Value)}{oc3 kV3 dc3 pm3 cd3 ct3:Value}
 (a3:PySem.W.nsIn K mainGlobals "joins"=some (some (.ref f3)))
 (l3:K.lookup f3=some ⟨oc3,od3,.func (PySem.W.fnOf "joins" "joins" (defArgs gf) (defBody gf) (defScope gf) .none kV3 dc3 pm3 an3 cd3 ct3),sl3⟩) (c3:PySem.W.codeIn K cd3 "joins"=true) (k3:PySem.W.keepIn K (.ref f3)=true)
 {f4:Addr}{od4 an4:Option Addr}{sl4:Array (Option Value)}{oc4 kV4 dc4 pm4 cd4 ct4:Value}
 (a4:PySem.W.nsIn K mainGlobals "least_joining"=some (some (.ref f4)))
 (l4:K.lookup f4=some ⟨oc4,od4,.func (PySem.W.fnOf "least_joining" "least_joining" (defArgs bM) (defBody bM) (defScope bM) .none kV4 dc4 pm4 an4 cd4 ct4),sl4⟩) (c4:PySem.W.codeIn K cd4 "least_joining"=true) (k4:PySem.W.keepIn K (.ref f4)=true)
 {f5:Addr}{od5 an5:Option Addr}{sl5:Array (Option Value)}{oc5 kV5 dc5 pm5 cd5 ct5:Value}
 (a5:PySem.W.nsIn K mainGlobals "pairs_of"=some (some (.ref f5)))
 (l5:K.lookup f5=some ⟨oc5,od5,.func (PySem.W.fnOf "pairs_of" "pairs_of" (defArgs dB) (defBody dB) (defScope dB) .none kV5 dc5 pm5 an5 cd5 ct5),sl5⟩) (c5:PySem.W.codeIn K cd5 "pairs_of"=true) (k5:PySem.W.keepIn K (.ref f5)=true)
 {f6:Addr}{od6 an6:Option Addr}{sl6:Array (Option Value)}{oc6 kV6 dc6 pm6 cd6 ct6:Value}
 (a6:PySem.W.nsIn K mainGlobals "are_joinings"=some (some (.ref f6)))
 (l6:K.lookup f6=some ⟨oc6,od6,.func (PySem.W.fnOf "are_joinings" "are_joinings" (defArgs bY) (defBody bY) (defScope bY) .none kV6 dc6 pm6 an6 cd6 ct6),sl6⟩) (c6:PySem.W.codeIn K cd6 "are_joinings"=true) (k6:PySem.W.keepIn K (.ref f6)=true)
 {f7:Addr}{od7 an7:Option Addr}{sl7:Array (Option Value)}{oc7 kV7 dc7 pm7 cd7 ct7:Value}
 (a7:PySem.W.nsIn K mainGlobals "least_joinings"=some (some (.ref f7)))
 (l7:K.lookup f7=some ⟨oc7,od7,.func (PySem.W.fnOf "least_joinings" "least_joinings" (defArgs bJ) (defBody bJ) (defScope bJ) .none kV7 dc7 pm7 an7 cd7 ct7),sl7⟩) (c7:PySem.W.codeIn K cd7 "least_joinings"=true) (k7:PySem.W.keepIn K (.ref f7)=true)
 {f8:Addr}{od8 an8:Option Addr}{sl8:Array (Option Value)}{oc8 kV8 dc8 pm8 cd8 ct8:Value}
 (a8:PySem.W.nsIn K mainGlobals "can_be_walked"=some (some (.ref f8)))
 (l8:K.lookup f8=some ⟨oc8,od8,.func (PySem.W.fnOf "can_be_walked" "can_be_walked" (defArgs bL) (defBody bL) (defScope bL) .none kV8 dc8 pm8 an8 cd8 ct8),sl8⟩) (c8:PySem.W.codeIn K cd8 "can_be_walked"=true) (k8:PySem.W.keepIn K (.ref f8)=true)
 {f9:Addr}{od9 an9:Option Addr}{sl9:Array (Option Value)}{oc9 kV9 dc9 pm9 cd9 ct9:Value}
 (a9:PySem.W.findIn K (.ref CC_Walk) "__init__"=some (some (.ref f9))) (n9:PySem.W.isFn K (.ref f9)=true)
 (l9:K.lookup f9=some ⟨oc9,od9,.func (PySem.W.fnOf "__init__" "Walk.__init__" (defArgs bC) (defBody bC) (defScope bC) .none kV9 dc9 pm9 an9 cd9 ct9),sl9⟩) (c9:PySem.W.codeIn K cd9 "Walk.__init__"=true) (k9:PySem.W.keepIn K (.ref f9)=true)
 {f10:Addr}{od10 an10:Option Addr}{sl10:Array (Option Value)}{oc10 kV10 dc10 pm10 cd10 ct10:Value}
 (a10:PySem.W.nsIn K mainGlobals "is_rule"=some (some (.ref f10)))
 (l10:K.lookup f10=some ⟨oc10,od10,.func (PySem.W.fnOf "is_rule" "is_rule" (defArgs dR) (defBody dR) (defScope dR) .none kV10 dc10 pm10 an10 cd10 ct10),sl10⟩) (c10:PySem.W.codeIn K cd10 "is_rule"=true) (k10:PySem.W.keepIn K (.ref f10)=true)
 {f11:Addr}{od11 an11:Option Addr}{sl11:Array (Option Value)}{oc11 kV11 dc11 pm11 cd11 ct11:Value}
 (a11:PySem.W.nsIn K mainGlobals "best_rule"=some (some (.ref f11)))
 (l11:K.lookup f11=some ⟨oc11,od11,.func (PySem.W.fnOf "best_rule" "best_rule" (defArgs cT) (defBody cT) (defScope cT) .none kV11 dc11 pm11 an11 cd11 ct11),sl11⟩) (c11:PySem.W.codeIn K cd11 "best_rule"=true) (k11:PySem.W.keepIn K (.ref f11)=true)
 {f12:Addr}{od12 an12:Option Addr}{sl12:Array (Option Value)}{oc12 kV12 dc12 pm12 cd12 ct12:Value}
 (a12:PySem.W.nsIn K mainGlobals "_law_cell_at"=some (some (.ref f12)))
 (l12:K.lookup f12=some ⟨oc12,od12,.func (PySem.W.fnOf "_law_cell_at" "_law_cell_at" (defArgs bU) (defBody bU) (defScope bU) .none kV12 dc12 pm12 an12 cd12 ct12),sl12⟩) (c12:PySem.W.codeIn K cd12 "_law_cell_at"=true) (k12:PySem.W.keepIn K (.ref f12)=true)
 {f13:Addr}{od13 an13:Option Addr}{sl13:Array (Option Value)}{oc13 kV13 dc13 pm13 cd13 ct13:Value}
 (a13:PySem.W.nsIn K mainGlobals "_law_next"=some (some (.ref f13)))
 (l13:K.lookup f13=some ⟨oc13,od13,.func (PySem.W.fnOf "_law_next" "_law_next" (defArgs cQ) (defBody cQ) (defScope cQ) .none kV13 dc13 pm13 an13 cd13 ct13),sl13⟩) (c13:PySem.W.codeIn K cd13 "_law_next"=true) (k13:PySem.W.keepIn K (.ref f13)=true)
 {f14:Addr}{od14 an14:Option Addr}{sl14:Array (Option Value)}{oc14 kV14 dc14 pm14 cd14 ct14:Value}
 (a14:PySem.W.nsIn K mainGlobals "_law_pen_of"=some (some (.ref f14)))
 (l14:K.lookup f14=some ⟨oc14,od14,.func (PySem.W.fnOf "_law_pen_of" "_law_pen_of" (defArgs cj) (defBody cj) (defScope cj) .none kV14 dc14 pm14 an14 cd14 ct14),sl14⟩) (c14:PySem.W.codeIn K cd14 "_law_pen_of"=true) (k14:PySem.W.keepIn K (.ref f14)=true)
 {f15:Addr}{od15 an15:Option Addr}{sl15:Array (Option Value)}{oc15 kV15 dc15 pm15 cd15 ct15:Value}
 (a15:PySem.W.nsIn K mainGlobals "_law_draw"=some (some (.ref f15)))
 (l15:K.lookup f15=some ⟨oc15,od15,.func (PySem.W.fnOf "_law_draw" "_law_draw" (defArgs cP) (defBody cP) (defScope cP) .none kV15 dc15 pm15 an15 cd15 ct15),sl15⟩) (c15:PySem.W.codeIn K cd15 "_law_draw"=true) (k15:PySem.W.keepIn K (.ref f15)=true)
 {f16:Addr}{od16 an16:Option Addr}{sl16:Array (Option Value)}{oc16 kV16 dc16 pm16 cd16 ct16:Value}
 (a16:PySem.W.nsIn K mainGlobals "_law_whole"=some (some (.ref f16)))
 (l16:K.lookup f16=some ⟨oc16,od16,.func (PySem.W.fnOf "_law_whole" "_law_whole" (defArgs cG) (defBody cG) (defScope cG) .none kV16 dc16 pm16 an16 cd16 ct16),sl16⟩) (c16:PySem.W.codeIn K cd16 "_law_whole"=true) (k16:PySem.W.keepIn K (.ref f16)=true)
 {f17:Addr}{od17 an17:Option Addr}{sl17:Array (Option Value)}{oc17 kV17 dc17 pm17 cd17 ct17:Value}
 (a17:PySem.W.nsIn K mainGlobals "_law_row"=some (some (.ref f17)))
 (l17:K.lookup f17=some ⟨oc17,od17,.func (PySem.W.fnOf "_law_row" "_law_row" (defArgs dj) (defBody dj) (defScope dj) .none kV17 dc17 pm17 an17 cd17 ct17),sl17⟩) (c17:PySem.W.codeIn K cd17 "_law_row"=true) (k17:PySem.W.keepIn K (.ref f17)=true)
 {f18:Addr}{od18 an18:Option Addr}{sl18:Array (Option Value)}{oc18 kV18 dc18 pm18 cd18 ct18:Value}
 (a18:PySem.W.nsIn K mainGlobals "_law_rows"=some (some (.ref f18)))
 (l18:K.lookup f18=some ⟨oc18,od18,.func (PySem.W.fnOf "_law_rows" "_law_rows" (defArgs cR) (defBody cR) (defScope cR) .none kV18 dc18 pm18 an18 cd18 ct18),sl18⟩) (c18:PySem.W.codeIn K cd18 "_law_rows"=true) (k18:PySem.W.keepIn K (.ref f18)=true)
 {f19:Addr}{od19 an19:Option Addr}{sl19:Array (Option Value)}{oc19 kV19 dc19 pm19 cd19 ct19:Value}
 (a19:PySem.W.nsIn K mainGlobals "_law_pairs"=some (some (.ref f19)))
 (l19:K.lookup f19=some ⟨oc19,od19,.func (PySem.W.fnOf "_law_pairs" "_law_pairs" (defArgs cD) (defBody cD) (defScope cD) .none kV19 dc19 pm19 an19 cd19 ct19),sl19⟩) (c19:PySem.W.codeIn K cd19 "_law_pairs"=true) (k19:PySem.W.keepIn K (.ref f19)=true)
 {f20:Addr}{od20 an20:Option Addr}{sl20:Array (Option Value)}{oc20 kV20 dc20 pm20 cd20 ct20:Value}
 (a20:PySem.W.nsIn K mainGlobals "_law_joining"=some (some (.ref f20)))
 (l20:K.lookup f20=some ⟨oc20,od20,.func (PySem.W.fnOf "_law_joining" "_law_joining" (defArgs bW) (defBody bW) (defScope bW) .none kV20 dc20 pm20 an20 cd20 ct20),sl20⟩) (c20:PySem.W.codeIn K cd20 "_law_joining"=true) (k20:PySem.W.keepIn K (.ref f20)=true)
 {f21:Addr}{od21 an21:Option Addr}{sl21:Array (Option Value)}{oc21 kV21 dc21 pm21 cd21 ct21:Value}
 (a21:PySem.W.nsIn K mainGlobals "_law_is_joining"=some (some (.ref f21)))
 (l21:K.lookup f21=some ⟨oc21,od21,.func (PySem.W.fnOf "_law_is_joining" "_law_is_joining" (defArgs bB) (defBody bB) (defScope bB) .none kV21 dc21 pm21 an21 cd21 ct21),sl21⟩) (c21:PySem.W.codeIn K cd21 "_law_is_joining"=true) (k21:PySem.W.keepIn K (.ref f21)=true)
 {f22:Addr}{od22 an22:Option Addr}{sl22:Array (Option Value)}{oc22 kV22 dc22 pm22 cd22 ct22:Value}
 (a22:PySem.W.nsIn K mainGlobals "_law_is_rule"=some (some (.ref f22)))
 (l22:K.lookup f22=some ⟨oc22,od22,.func (PySem.W.fnOf "_law_is_rule" "_law_is_rule" (defArgs bV) (defBody bV) (defScope bV) .none kV22 dc22 pm22 an22 cd22 ct22),sl22⟩) (c22:PySem.W.codeIn K cd22 "_law_is_rule"=true) (k22:PySem.W.keepIn K (.ref f22)=true)
 {f23:Addr}{od23 an23:Option Addr}{sl23:Array (Option Value)}{oc23 kV23 dc23 pm23 cd23 ct23:Value}
 (a23:PySem.W.nsIn K mainGlobals "_law_parted"=some (some (.ref f23)))
 (l23:K.lookup f23=some ⟨oc23,od23,.func (PySem.W.fnOf "_law_parted" "_law_parted" (defArgs cg) (defBody cg) (defScope cg) .none kV23 dc23 pm23 an23 cd23 ct23),sl23⟩) (c23:PySem.W.codeIn K cd23 "_law_parted"=true) (k23:PySem.W.keepIn K (.ref f23)=true)
 {f24:Addr}{od24 an24:Option Addr}{sl24:Array (Option Value)}{oc24 kV24 dc24 pm24 cd24 ct24:Value}
 (a24:PySem.W.nsIn K mainGlobals "_law_right"=some (some (.ref f24)))
 (l24:K.lookup f24=some ⟨oc24,od24,.func (PySem.W.fnOf "_law_right" "_law_right" (defArgs cF) (defBody cF) (defScope cF) .none kV24 dc24 pm24 an24 cd24 ct24),sl24⟩) (c24:PySem.W.codeIn K cd24 "_law_right"=true) (k24:PySem.W.keepIn K (.ref f24)=true)
 {f25:Addr}{od25 an25:Option Addr}{sl25:Array (Option Value)}{oc25 kV25 dc25 pm25 cd25 ct25:Value}
 (a25:PySem.W.nsIn K mainGlobals "law"=some (some (.ref f25)))
 (l25:K.lookup f25=some ⟨oc25,od25,.func (PySem.W.fnOf "law" "law" (defArgs lq) (defBody lq) (defScope lq) .none kV25 dc25 pm25 an25 cd25 ct25),sl25⟩) (c25:PySem.W.codeIn K cd25 "law"=true) (k25:PySem.W.keepIn K (.ref f25)=true)
 (z0:PySem.W.nsIn K mainGlobals "all"=some none)
 (z1:PySem.W.nsIn K mainGlobals "bool"=some none)
 (z2:PySem.W.nsIn K mainGlobals "int"=some none)
 (z3:PySem.W.nsIn K mainGlobals "isinstance"=some none)
 (z4:PySem.W.nsIn K mainGlobals "len"=some none)
 (z5:PySem.W.nsIn K mainGlobals "list"=some none)
 (z6:PySem.W.nsIn K mainGlobals "max"=some none)
 (z7:PySem.W.nsIn K mainGlobals "min"=some none)
 (z8:PySem.W.nsIn K mainGlobals "range"=some none)
 (z9:PySem.W.nsIn K mainGlobals "sorted"=some none)
 (z10:PySem.W.nsIn K mainGlobals "sum"=some none)
 (z11:PySem.W.nsIn K mainGlobals "tuple"=some none)
 (z12:PySem.W.nsIn K mainGlobals "zip"=some none)
 : Tops K mg CC_Walk:=⟨aP X G a0 l0 c0 k0,aP X G a1 l1 c1 k1,aP X G a2 l2 c2 k2,aP X G a3 l3 c3 k3,aP X G a4 l4 c4 k4,aP X G a5 l5 c5 k5,aP X G a6 l6 c6 k6,aP X G a7 l7 c7 k7,aP X G a8 l8 c8 k8,xf a9 n9 l9 c9 k9,aP X G a10 l10 c10 k10,aP X G a11 l11 c11 k11,aP X G a12 l12 c12 k12,aP X G a13 l13 c13 k13,aP X G a14 l14 c14 k14,aP X G a15 l15 c15 k15,aP X G a16 l16 c16 k16,aP X G a17 l17 c17 k17,aP X G a18 l18 c18 k18,aP X G a19 l19 c19 k19,aP X G a20 l20 c20 k20,aP X G a21 l21 c21 k21,aP X G a22 l22 c22 k22,aP X G a23 l23 c23 k23,aP X G a24 l24 c24 k24,aP X G a25 l25 c25 k25,PySem.W.mg_none_of X G z0,PySem.W.mg_none_of X G z1,PySem.W.mg_none_of X G z2,PySem.W.mg_none_of X G z3,PySem.W.mg_none_of X G z4,PySem.W.mg_none_of X G z5,PySem.W.mg_none_of X G z6,PySem.W.mg_none_of X G z7,PySem.W.mg_none_of X G z8,PySem.W.mg_none_of X G z9,PySem.W.mg_none_of X G z10,PySem.W.mg_none_of X G z11,PySem.W.mg_none_of X G z12⟩
def xm (K:PySem.W.Frag):Bool:=K.all fun p=>!(p.2.cls == .type "list")
theorem CQ {K:PySem.W.Frag} (h:xm K=true) {a:Addr}{o:Obj} (e:K.lookup a=some o):o.cls≠.type "list":=by
 have:∀ (l:List (Addr×Obj)),(l.all fun p=>!(p.2.cls == .type "list"))=true->l.lookup a=some o->o.cls≠.type "list":=by
  intro l
  induction l with
  | nil=>intro _ e;cases e
  | cons p l ih=>
    intro h e
    rw [List.all_cons,Bool.and_eq_true] at h
    rw [List.lookup_cons] at e
    split at e
    ·cases e
     intro z
     rw [z] at h
     exact absurd h.1 (by decide)
    ·exact ih h.2 e
 exact this K h e
theorem rd_of {K:PySem.W.Frag}{H:Hp}{a:Addr}{xs:List V} (h:xm K=true) (s:SqL K H a xs):Rd H a (.lst xs):=by
 rcases s with s | ⟨o,its,n,e,c,_⟩
 ·exact s
 ·exact absurd c (CQ h e)
structure Cls (K:PySem.W.Frag) (mg:Str->Option Value) (CC_Walk:Addr) (tg_MOST_PLACES:Tok):Prop where
 m_MOST_PLACES:mg "MOST_PLACES"=some (.int 25 tg_MOST_PLACES)
 o_Walk:OCls K mg "Walk" CC_Walk ["rows", "whole"]
 k_Walk:PySem.W.makesIn K CC_Walk=true∧PySem.W.keepIn K (.ref CC_Walk)=true
 nl:xm K=true
theorem BJ {K:PySem.W.Frag}{h:Heap}{mg:Str->Option Value} (X:K.In h) (G:h.Ns mainGlobals mg) {CC_Walk:Addr}{tg_MOST_PLACES:Tok}
  (g_MOST_PLACES:PySem.W.nsIn K mainGlobals "MOST_PLACES"=some (some (.int 25 tg_MOST_PLACES)))
  (cm_Walk:PySem.W.nsIn K mainGlobals "Walk"=some (some (.ref CC_Walk)))
  (pg_Walk:PySem.W.plainGet K CC_Walk Str.empty=true)
  (hd_Walk:PySem.W.hasDictIn K CC_Walk=true)
  (po_Walk:PySem.W.plainOver K CC_Walk=true)
  (sa_Walk:PySem.W.findIn K (.ref CC_Walk) "__setattr__"=some (some (.builtin "object.__setattr__")))
  (mk_Walk:PySem.W.makesIn K CC_Walk=true)
  (kc_Walk:PySem.W.keepIn K (.ref CC_Walk)=true)
  (nf_Walk_rows:PySem.W.findIn K (.ref CC_Walk) "rows"=some none)
  (nf_Walk_whole:PySem.W.findIn K (.ref CC_Walk) "whole"=some none)
  (nl:xm K=true)
  : Cls K mg CC_Walk tg_MOST_PLACES:=by
 have nof_Walk:∀ f∈(["rows", "whole"]:List Str),NoAttr K CC_Walk f:=by
  intro f hf
  simp only [List.mem_cons,List.not_mem_nil,or_false] at hf
  rcases hf with rfl | rfl
  ·exact nf_Walk_rows
  ·exact nf_Walk_whole
 refine ⟨PySem.W.mg_of X G g_MOST_PLACES,⟨PySem.W.mg_of X G cm_Walk,⟨pg_Walk,hd_Walk,po_Walk,sa_Walk⟩,nof_Walk⟩,⟨mk_Walk,kc_Walk⟩,nl⟩
def spLaw (K:PySem.W.Frag):Sp:=fun vs H Q _=>∃ (a:Addr) (ns:List Int),vs=[.ref a]∧SqL K H a (ns.map V.int)∧ns.length≤63∧∀ H',Q (.bl true) H'
theorem Ew {K:PySem.W.Frag}{mg:Str->Option Value} (nl:xm K=true) {vs:List V}{H:Hp}{Q:VK}{E:XK} (h:spLaw K vs H Q E):xR mg xZ vs H Q E:=by
 obtain ⟨a,ns,rfl,hS,hl,q⟩:=h
 have rd:=rd_of nl hS
 obtain ⟨d,M',e,ed⟩:=Ac ns (by omega)
 refine ⟨⟨[],[]⟩,[],[.scr ns],.cons (.scr (fun z=>by rcases z with z | z<;>cases z) rd) .nil,⟨rfl,List.nodup_nil,fun n a o h=>by simp at h,fun a h=>by cases h⟩,_,e,fun ρ' H' b x j c=>?_⟩
 subst ed
 cases c
 exact q H'
theorem GK {P:Program}{w:World}{K:PySem.W.Frag}{mg:Str->Option Value}{base:Heap}{k:Nat}{x:Str}{N ps:List Str}{st:Stmt}{fb:aa->DM Fl}{f:Addr}{fd:FuncData} (F:Fun K x x st f fd) (S:FnScope N ps (defScope st))
  (hbody:∀ (cdv:Value) (A:Around) (outer:List Env) (s:Shared) (H:Hp) (E:XK),Room k (A.deeper (PyProof.Rows.envOfC x (defScope st) s.heap.objs.size f cdv))->
    DSs (fU P w K mg base N x (defScope st) f cdv A outer s H E) E (defBody st) fb):FnOk P w K mg base (eZ P w) (k + 1) f fd ps (xR mg (aL ps.length N.length fb)):=by
 refine BW F S (fun vs H Q E h=>?_) fun cdv A outer s H vs Q E hr h=>?_
 ·obtain ⟨ρ,M,ds,c,j,g⟩:=h
  rw [c.len];exact (bx.aL g).1
 obtain ⟨ρ,M,ds,c,j,g⟩:=h
 exact ⟨_,(hbody cdv A outer s H E hr).h,ρ,_,M,j0 c,j,(bx.aL g).2⟩
theorem all_mk {l:PySem.W.OpenLaw}{w:World}{K:PySem.W.Frag}{mg:Str->Option Value}{fa:Addr}{CC_Walk:Addr}{tg_MOST_PLACES:Tok} (hfa:mg "law"=some (.ref fa)) (T:Tops K mg CC_Walk) (Z:Cls K mg CC_Walk tg_MOST_PLACES) :
  ∃ fd:FuncData,(∀ (s:Shared) (v:Value),BindsTo s fd ⟨[v],[]⟩ [("_law_script",v)])∧∀ base:Heap,K.In base->base.Ns mainGlobals mg->FnOk l.prog w K mg base (eZ l.prog w) 16 fa fd ["_law_script"] (spLaw K):=by
 obtain ⟨f,fd,F,m⟩:=T.t_law.ex
 have e:=hfa.symm.trans m
 cases e
 refine ⟨fd,?_,fun base _ _=>?_⟩
 ·obtain ⟨oc,od,kV,doc,pm,an,cdv,ct,osl,rfl,_⟩:=F.ex
  exact fun s v=>.of_eq rfl
 have D_is_whole:DefD l.prog w K mg base 1 "is_whole" ["thing"] v7:=DefAt.okD T.t_is_whole n8 (fun _ _ _ _ _ _ us hl=>by obtain ⟨_,rfl⟩:=jr hl;rfl) (fun _ _ _ _ _ _ _ hr=>(pN).2 T.z_bool T.z_int T.z_isinstance hr)
 have D_are_weights:DefD l.prog w K mg base 2 "are_weights" ["thing", "many"] uC:=DefAt.okD T.t_are_weights jO (fun _ _ _ _ _ _ us hl=>by obtain ⟨_,_,rfl⟩:=km hl;rfl) (fun _ _ _ _ _ _ _ hr=>(lK v7).2 D_is_whole T.z_all T.z_isinstance T.z_len T.z_tuple hr)
 have D_are_rows:DefD l.prog w K mg base 3 "are_rows" ["thing", "many"] nF:=DefAt.okD T.t_are_rows n6 (fun _ _ _ _ _ _ us hl=>by obtain ⟨_,_,rfl⟩:=km hl;rfl) (fun _ _ _ _ _ _ _ hr=>(pM uC).2 D_are_weights T.z_all T.z_isinstance T.z_len T.z_tuple hr)
 have D_joins:DefD l.prog w K mg base 4 "joins" ["first", "second", "thing"] v8:=DefAt.okD T.t_joins uv (fun _ _ _ _ _ _ us hl=>by obtain ⟨_,_,_,rfl⟩:=vI hl;rfl) (fun _ _ _ _ _ _ _ hr=>(qu nF).2 D_are_rows T.z_len T.z_list T.z_range T.z_sum T.z_tuple hr)
 have D_least_joining:DefD l.prog w K mg base 1 "least_joining" ["first", "second"] v9:=DefAt.okD T.t_least_joining iK (fun _ _ _ _ _ _ us hl=>by obtain ⟨_,_,rfl⟩:=km hl;rfl) (fun _ _ _ _ _ _ _ hr=>(fK).2 T.z_len T.z_min T.z_range T.z_tuple hr)
 have D_pairs_of:DefD l.prog w K mg base 1 "pairs_of" ["things"] rW:=DefAt.okD T.t_pairs_of oh (fun _ _ _ _ _ _ us hl=>by obtain ⟨_,rfl⟩:=jr hl;rfl) (fun _ _ _ _ _ _ _ hr=>(pO).2 T.z_len T.z_range hr)
 have D_are_joinings:DefD l.prog w K mg base 5 "are_joinings" ["lots", "thing"] vY:=DefAt.okD T.t_are_joinings jl (fun _ _ _ _ _ _ us hl=>by obtain ⟨_,_,rfl⟩:=km hl;rfl) (fun _ _ _ _ _ _ _ hr=>(jK rW v8).2 D_pairs_of D_joins T.z_all T.z_isinstance T.z_len T.z_tuple T.z_zip hr)
 have D_least_joinings:DefD l.prog w K mg base 2 "least_joinings" ["lots"] rQ:=DefAt.okD T.t_least_joinings gM (fun _ _ _ _ _ _ us hl=>by obtain ⟨_,rfl⟩:=jr hl;rfl) (fun _ _ _ _ _ _ _ hr=>(eV rW v9).2 D_pairs_of D_least_joining T.z_tuple hr)
 have D_can_be_walked:DefD l.prog w K mg base 4 "can_be_walked" ["thing"] v4:=DefAt.okD T.t_can_be_walked iJ (fun _ _ _ _ _ _ us hl=>by obtain ⟨_,rfl⟩:=jr hl;rfl) (fun _ _ _ _ _ _ _ hr=>(jf nF).2 D_are_rows Z.m_MOST_PLACES T.z_all T.z_isinstance T.z_len T.z_sum T.z_tuple hr)
 have M_Walk___init__:MethD l.prog w K mg base 5 "Walk" "__init__" "Walk.__init__" bC ["self", "rows"] Fin:=MethAt.okD T.t_Walk___init__ Z.o_Walk.at_ Z.o_Walk.cls iI (fun _ _ _ _ _ _ _ hr=>(jc v4).2 D_can_be_walked Z.o_Walk T.z_sum hr)
 have W_Walk:ClsD l.prog w K mg base 5 "Walk" rN:=Fx M_Walk___init__ (fun _ _ _ _ _ _ us hl=>match us,hl with | [_,_],_=>rfl) (fun C hC=>by
  have q:=hC.symm.trans Z.o_Walk.at_
  cases q
  exact Z.k_Walk) Dt
 have D_is_rule:DefD l.prog w K mg base 6 "is_rule" ["walk", "thing"] v6:=DefAt.okD T.t_is_rule pY (fun _ _ _ _ _ _ us hl=>by obtain ⟨_,_,rfl⟩:=km hl;rfl) (fun _ _ _ _ _ _ _ hr=>(qR vY).2 D_are_joinings Z.o_Walk hr)
 have D_best_rule:DefD l.prog w K mg base 3 "best_rule" ["walk"] vZ:=DefAt.okD T.t_best_rule mU (fun _ _ _ _ _ _ us hl=>by obtain ⟨_,rfl⟩:=jr hl;rfl) (fun _ _ _ _ _ _ _ hr=>(jx rQ).2 D_least_joinings Z.o_Walk hr)
 have D__law_cell_at:DefD l.prog w K mg base 1 "_law_cell_at" ["_law_script", "_law_k"] rO:=DefAt.okD T.t__law_cell_at ji (fun _ _ _ _ _ _ us hl=>by obtain ⟨_,_,rfl⟩:=km hl;rfl) (fun _ _ _ _ _ _ _ hr=>(jH).2 T.z_len hr)
 have D__law_next:DefD l.prog w K mg base 1 "_law_next" ["_law_seed"] wj:=DefAt.okD T.t__law_next mQ (fun _ _ _ _ _ _ us hl=>by obtain ⟨_,rfl⟩:=jr hl;rfl) (fun _ _ _ _ _ _ _ hr=>(nY).2  hr)
 have D__law_pen_of:DefD l.prog w K mg base 1 "_law_pen_of" ["_law_cell"] rT:=DefAt.okD T.t__law_pen_of jN (fun _ _ _ _ _ _ us hl=>by obtain ⟨_,rfl⟩:=jr hl;rfl) (fun _ _ _ _ _ _ _ hr=>(gJ).2 T.z_int T.z_max hr)
 have D__law_draw:DefD l.prog w K mg base 2 "_law_draw" ["_law_pen", "_law_many"] lO:=DefAt.okD T.t__law_draw mO (fun _ _ _ _ _ _ us hl=>by obtain ⟨_,_,rfl⟩:=km hl;rfl) (fun _ _ _ _ _ _ _ hr=>(ju wj).2 D__law_next hr)
 have D__law_whole:DefD l.prog w K mg base 1 "_law_whole" ["_law_thing"] wg:=DefAt.okD T.t__law_whole lN (fun _ _ _ _ _ _ us hl=>by obtain ⟨_,rfl⟩:=jr hl;rfl) (fun _ _ _ _ _ _ _ hr=>(mK).2 T.z_bool T.z_int T.z_isinstance hr)
 have D__law_row:DefD l.prog w K mg base 3 "_law_row" ["_law_pen", "_law_many", "_law_whole_here", "_law_some"] rZ:=DefAt.okD T.t__law_row nZ (fun _ _ _ _ _ _ us hl=>by obtain ⟨_,_,_,_,rfl⟩:=FQ hl;rfl) (fun _ _ _ _ _ _ _ hr=>(kW lO).2 D__law_draw T.z_len T.z_range T.z_tuple hr)
 have D__law_rows:DefD l.prog w K mg base 4 "_law_rows" ["_law_pen", "_law_top"] sy:=DefAt.okD T.t__law_rows mR (fun _ _ _ _ _ _ us hl=>by obtain ⟨_,_,rfl⟩:=km hl;rfl) (fun _ _ _ _ _ _ _ hr=>(jw lO rZ).2 D__law_draw D__law_row T.z_list T.z_range T.z_tuple hr)
 have D__law_pairs:DefD l.prog w K mg base 1 "_law_pairs" ["_law_many"] rY:=DefAt.okD T.t__law_pairs lL (fun _ _ _ _ _ _ us hl=>by obtain ⟨_,rfl⟩:=jr hl;rfl) (fun _ _ _ _ _ _ _ hr=>(iC).2 T.z_range T.z_sorted hr)
 have D__law_joining:DefD l.prog w K mg base 3 "_law_joining" ["_law_pen", "_law_one", "_law_other"] uD:=DefAt.okN (fb:=fun N=>dU N lO) T.t__law_joining jk (fun _ _ _ _ _ _ us hl=>by obtain ⟨_,_,_,rfl⟩:=vI hl;rfl) DY (fun N _ _ _ _ _ _ _ hr=>(fZ N lO).2 D__law_draw T.z_len T.z_list T.z_min T.z_range T.z_sum T.z_tuple hr)
 have D__law_is_joining:DefD l.prog w K mg base 2 "_law_is_joining" ["_law_one", "_law_other", "_law_thing"] v5:=DefAt.okD T.t__law_is_joining gF (fun _ _ _ _ _ _ us hl=>by obtain ⟨_,_,_,rfl⟩:=vI hl;rfl) (fun _ _ _ _ _ _ _ hr=>(eF wg).2 D__law_whole T.z_isinstance T.z_len T.z_list T.z_range T.z_sum T.z_tuple hr)
 have D__law_is_rule:DefD l.prog w K mg base 3 "_law_is_rule" ["_law_rows_here", "_law_thing"] rP:=DefAt.okD T.t__law_is_rule jj (fun _ _ _ _ _ _ us hl=>by obtain ⟨_,_,rfl⟩:=km hl;rfl) (fun _ _ _ _ _ _ _ hr=>(jJ rY v5).2 D__law_pairs D__law_is_joining T.z_all T.z_isinstance T.z_len T.z_tuple T.z_zip hr)
 have D__law_parted:DefD l.prog w K mg base 1 "_law_parted" ["_law_table"] rR:=DefAt.okD T.t__law_parted jM (fun _ _ _ _ _ _ us hl=>by obtain ⟨_,rfl⟩:=jr hl;rfl) (fun _ _ _ _ _ _ _ hr=>(lJ).2 T.z_len T.z_range T.z_sum hr)
 have D__law_right:DefD l.prog w K mg base 4 "_law_right" ["_law_pen", "_law_rows_here", "_law_reply"] wu:=DefAt.okD T.t__law_right lM (fun _ _ _ _ _ _ us hl=>by obtain ⟨_,_,_,rfl⟩:=vI hl;rfl) (fun _ _ _ _ _ _ _ hr=>(iD rP rY rR uD).2 D__law_is_rule D__law_pairs D__law_parted D__law_joining T.z_len T.z_max T.z_range T.z_sum T.z_zip hr)
 exact ((GK (P:=l.prog) (w:=w) (base:=base) F xQ fun cdv A outer s H E hr=>(vP rO rT sy vZ v6 wu rN).2 D__law_cell_at D__law_pen_of D__law_rows D_best_rule D_is_rule D__law_right W_Walk T.z_range hr).imp fun vs H Q E h=>Ew Z.nl h).mono (by decide)
theorem walk {l:PySem.W.OpenLaw}{q:Program}{loose:List Str}{XP:(Str->Option Value)->Heap->Prop}{YP:World->Heap->Prop}{d:DefRec}{K:Params->PySem.W.Frag} (hn:l.most=some 63) (hdf:d.params.defaults=[])
  (hY:∀ (w:World) (h:Heap),YP w h->(K w.params).In h)
  (F:∀ (w:World) (mg:Str->Option Value) (fa:Addr) (h:Heap),(K w.params).In h->h.Ns mainGlobals mg->mg d.name=some (.ref fa)->
    ∃ fd:FuncData,(∀ (s:Shared) (u:Value),BindsTo s fd ⟨[u],[]⟩ [("_law_script",u)])∧∀ base:Heap,(K w.params).In base->base.Ns mainGlobals mg->FnOk l.prog w (K w.params) mg base (eZ l.prog w) 16 fa fd ["_law_script"] (spLaw (K w.params))) :
  PySem.W.WalkO q loose XP YP l.row.toRowW d [] (fun f vs=>PySem.call f vs):=
 L2.walk_of (n:=63) (k:=16) (x := "_law_script") (CX:=fun w=>eZ l.prog w) (sp:=fun w=>spLaw (K w.params)) hn (by decide) hdf ⟨rfl,by decide,by decide,rfl⟩ hY F (fun _ _ a ns hl _ hS=>⟨a,ns,rfl,hS,hl,fun _=>rfl⟩) fun _ _ _ _ _ z=>by
  obtain ⟨_,_,_,_,_,_,_,_,_,_,_,_,_,q⟩:=z
  exact q.elim
end K
open PySem PySem.W PyProof.Rows
set_option maxRecDepth 100000 in
set_option maxHeartbeats 0 in
theorem PySem.Challenge.cw_fadewalk_k57_rules_that_part_least_holds : PySem.Challenge.rw_fadewalk_k57_rules_that_part_least.Holds := by
 w_on;refine T.cut ?_
 k_fill
 refine K.walk (l:=PySem.Challenge.rw_fadewalk_k57_rules_that_part_least) rfl rfl (fun w h Y=>PySem.W.kIn_of Y) ?F
 case F=>
  intro w mg fa h KX G hmg
  refine' K.all_mk hmg (K.Bj KX G ?a0 ?l0 ?c0 ?k0 ?a1 ?l1 ?c1 ?k1 ?a2 ?l2 ?c2 ?k2 ?a3 ?l3 ?c3 ?k3 ?a4 ?l4 ?c4 ?k4 ?a5 ?l5 ?c5 ?k5 ?a6 ?l6 ?c6 ?k6 ?a7 ?l7 ?c7 ?k7 ?a8 ?l8 ?c8 ?k8 ?a9 ?n9 ?l9 ?c9 ?k9 ?a10 ?l10 ?c10 ?k10 ?a11 ?l11 ?c11 ?k11 ?a12 ?l12 ?c12 ?k12 ?a13 ?l13 ?c13 ?k13 ?a14 ?l14 ?c14 ?k14 ?a15 ?l15 ?c15 ?k15 ?a16 ?l16 ?c16 ?k16 ?a17 ?l17 ?c17 ?k17 ?a18 ?l18 ?c18 ?k18 ?a19 ?l19 ?c19 ?k19 ?a20 ?l20 ?c20 ?k20 ?a21 ?l21 ?c21 ?k21 ?a22 ?l22 ?c22 ?k22 ?a23 ?l23 ?c23 ?k23 ?a24 ?l24 ?c24 ?k24 ?a25 ?l25 ?c25 ?k25 ?z0 ?z1 ?z2 ?z3 ?z4 ?z5 ?z6 ?z7 ?z8 ?z9 ?z10 ?z11 ?z12) (K.BJ KX G ?g_MOST_PLACES ?cm_Walk ?pg_Walk ?hd_Walk ?po_Walk ?sa_Walk ?mk_Walk ?kc_Walk ?nf_Walk_rows ?nf_Walk_whole ?nl)
  (case cm_Walk=>first | k_is | k_exc | kernel_rfl)
  (case g_MOST_PLACES=>first | k_is | k_exc | kernel_rfl)
  (case pg_Walk=>first | k_is | k_exc | kernel_rfl)
  (case hd_Walk=>first | k_is | k_exc | kernel_rfl)
  (case po_Walk=>first | k_is | k_exc | kernel_rfl)
  (case sa_Walk=>first | k_is | k_exc | kernel_rfl)
  (case mk_Walk=>first | k_is | k_exc | kernel_rfl)
  (case kc_Walk=>first | k_is | k_exc | kernel_rfl)
  (case nf_Walk_rows=>first | k_is | k_exc | kernel_rfl)
  (case nf_Walk_whole=>first | k_is | k_exc | kernel_rfl)
  (case nl=>first | k_is | k_exc | kernel_rfl)
  (case a0=>k_is)
  (case l0=>k_is)
  (case c0=>k_is)
  (case k0=>k_is)
  (case a1=>k_is)
  (case l1=>k_is)
  (case c1=>k_is)
  (case k1=>k_is)
  (case a2=>k_is)
  (case l2=>k_is)
  (case c2=>k_is)
  (case k2=>k_is)
  (case a3=>k_is)
  (case l3=>k_is)
  (case c3=>k_is)
  (case k3=>k_is)
  (case a4=>k_is)
  (case l4=>k_is)
  (case c4=>k_is)
  (case k4=>k_is)
  (case a5=>k_is)
  (case l5=>k_is)
  (case c5=>k_is)
  (case k5=>k_is)
  (case a6=>k_is)
  (case l6=>k_is)
  (case c6=>k_is)
  (case k6=>k_is)
  (case a7=>k_is)
  (case l7=>k_is)
  (case c7=>k_is)
  (case k7=>k_is)
  (case a8=>k_is)
  (case l8=>k_is)
  (case c8=>k_is)
  (case k8=>k_is)
  (case a9=>k_is)
  (case n9=>k_is)
  (case l9=>k_is)
  (case c9=>k_is)
  (case k9=>k_is)
  (case a10=>k_is)
  (case l10=>k_is)
  (case c10=>k_is)
  (case k10=>k_is)
  (case a11=>k_is)
  (case l11=>k_is)
  (case c11=>k_is)
  (case k11=>k_is)
  (case a12=>k_is)
  (case l12=>k_is)
  (case c12=>k_is)
  (case k12=>k_is)
  (case a13=>k_is)
  (case l13=>k_is)
  (case c13=>k_is)
  (case k13=>k_is)
  (case a14=>k_is)
  (case l14=>k_is)
  (case c14=>k_is)
  (case k14=>k_is)
  (case a15=>k_is)
  (case l15=>k_is)
  (case c15=>k_is)
  (case k15=>k_is)
  (case a16=>k_is)
  (case l16=>k_is)
  (case c16=>k_is)
  (case k16=>k_is)
  (case a17=>k_is)
  (case l17=>k_is)
  (case c17=>k_is)
  (case k17=>k_is)
  (case a18=>k_is)
  (case l18=>k_is)
  (case c18=>k_is)
  (case k18=>k_is)
  (case a19=>k_is)
  (case l19=>k_is)
  (case c19=>k_is)
  (case k19=>k_is)
  (case a20=>k_is)
  (case l20=>k_is)
  (case c20=>k_is)
  (case k20=>k_is)
  (case a21=>k_is)
  (case l21=>k_is)
  (case c21=>k_is)
  (case k21=>k_is)
  (case a22=>k_is)
  (case l22=>k_is)
  (case c22=>k_is)
  (case k22=>k_is)
  (case a23=>k_is)
  (case l23=>k_is)
  (case c23=>k_is)
  (case k23=>k_is)
  (case a24=>k_is)
  (case l24=>k_is)
  (case c24=>k_is)
  (case k24=>k_is)
  (case a25=>k_is)
  (case l25=>k_is)
  (case c25=>k_is)
  (case k25=>k_is)
  (case z0=>k_is)
  (case z1=>k_is)
  (case z2=>k_is)
  (case z3=>k_is)
  (case z4=>k_is)
  (case z5=>k_is)
  (case z6=>k_is)
  (case z7=>k_is)
  (case z8=>k_is)
  (case z9=>k_is)
  (case z10=>k_is)
  (case z11=>k_is)
  (case z12=>k_is)
