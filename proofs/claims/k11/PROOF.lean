import PyProof.Rows.All
import Wide.All
import OpenK.AllK
import Wide.FinOn
import Lean
import PyProof.EqAt
import PyProof.EqKinds
import PyProof.TupleCall
import PyProof.ReprRoads
import PyProof.P3Eq
import PyProof.NeData
import PyProof.ReprLen
import PyProof.Rows.RegStrFacts
import OpenK.KOwn
import PyProof.StationsW
import PyProof.Rows.Catch
import PyProof.Rows.Own
import PyProof.RulesAs
import PyProof.ExcBaseAll.ValueError
import PyProof.NsDelKeeps
import PyProof.ExcArgsOwn
import PyProof.ExcAttrAll.ValueError
import PyProof.CompFree
import PyProof.CompMap
import PyProof.ConsumeWalk
import PyProof.SumWalk
import PyProof.Rows.TupIter
import PyProof.Rows.SumGenD
import PyProof.FString
import PyProof.Rows.FStr
import PyProof.Rows.RuleIs
import PyProof.FactsAll.tuple_iterator_1
import PyProof.FactsAll.tuple_2
import PyProof.FactsAll.list_3
import PyProof.Cells
import PyProof.ZipIter
import PyProof.EnumMake
import PyProof.EnumFor
import PyProof.ListRange
import PyProof.TupleOfSeq
import PyProof.Rows.SetFrom
import PyProof.Rows.SortShell
import PyProof.CollectWalk
import PyProof.FactsAll.set_1
import PyProof.Rows.SortWalk
import PyProof.FactsAll.set_2
import KE.KDictSum
import KE.KSortTup
import PyProof.TupleKey
import PyProof.IsRules
import KE.KTupSum
import PyProof.WalkInts
import PyProof.SeqI3
import PyProof.Conv_int_bool
import PySem.Challenge.RW_fadewalk_k11_joinings_and_papers_looked
set_option Elab.async false
set_option maxRecDepth 100000
set_option maxHeartbeats 8000000
namespace T
open PySem PySem.W PyProof.Rows
/-- the top's run over a tree -/
noncomputable def runT (p:Program) (w:World) (m:Nat) (a:Option Value):Nat->SharedT->Thread->Option SharedT
 | 0,_,_=>none
 | n + 1,s,t=>match through t with
   | true=>some s
   | false=>match stepOk m a t with
     | false=>none
     | true=>match stepT (denote treeTable) p w s t with
       | some r=>runT p w m a n r.1 r.2
       | none=>none
theorem run_of {p:Program}{w:World}{m:Nat}{a:Option Value}:∀ {n:Nat}{s s':SharedT}{t:Thread},runT p w m a n s t=some s'->topRun treeTable p w m a n s.abs t=some s'.abs
 | 0,_,_,_,h=>by cases h
 | n + 1,s,s',t,h=>by
   unfold runT at h
   unfold topRun
   cases ht:through t with
   | true=>rw [ht] at h;cases h;rfl
   | false=>
     rw [ht] at h
     cases hk:stepOk m a t with
     | false=>rw [hk] at h;cases h
     | true=>
       rw [hk] at h
       cases hs:stepT (denote treeTable) p w s t with
       | none=>rw [hs] at h;cases h
       | some r=>obtain ⟨s2,t2⟩:=r;rw [hs] at h;rw [stepT_spec hs];exact run_of h
noncomputable def grow:List Obj->Nat->BT->BT
 | [],_,t=>t
 | o::l,n,t=>grow l (n + 1) (t.ins n o)
noncomputable def bootT (B:Heap) (os:OsState):SharedT:=⟨grow B.objs.toList 0 .nil,B.objs.size,B.life,#[],boot_drawn,boot_toks,os⟩
noncomputable def bootA (w:World) (os:OsState):Shared:=⟨boot_heap w.params,#[],boot_drawn,boot_toks,os⟩
theorem boot_abs (w:World) (os:OsState):(bootT (boot_heap w.params) os).abs=bootA w os:=by kernel_rfl
theorem boot_ns (w:World):((boot_heap w.params).isNs mainGlobals && (#[]:Array GenState).size == 0)=true:=by kernel_rfl
noncomputable def chk {α:Type} (p q:Program) (loose:List Str) (Xt:Shared->Bool) (Yf:Shared->α) (N:Nat) (B:Heap) (w:World) (os:OsState):=
 (runT p w B.objs.size (B.nsMap mainGlobals "__annotations__") N (bootT B os) (topStub p)).map fun s=>
   (staticsOk (importedModules p.main.body) B s.abs.heap && namesBound p s.abs.heap && gensDone s.abs && laidKept B s.abs.heap,openSeen q loose (importedModules p.main.body) Xt true s.abs,Yf s.abs)
theorem left {α:Type}{p q:Program}{loose:List Str}{Xt:Shared->Bool}{Yf:Shared->α}{Ya:World->α}{N:Nat} (e:opening p=plainProg p.main.scope.names) (hN:Nat.ble 600 N=true) (f:∀ s,fenceModules? p s=some s)
  (h:∀ (w:World) (os:OsState),chk p q loose Xt Yf N (boot_heap w.params) w os=some (true,openGood q loose,Ya w)):LeftO p q loose Xt Yf Ya N:=fun w=>by
 obtain ⟨⟨hh,gs,d,k,os⟩,e1,e2⟩:=Option.map_eq_some_iff.mp (boot_open (N:=N) e hN f w)
 obtain ⟨rfl,rfl,rfl,rfl⟩:hh=boot_heap w.params∧gs=#[]∧d=boot_drawn∧k=boot_toks:=by simpa using e2
 obtain ⟨s,r1,r2⟩:=Option.map_eq_some_iff.mp (h w os)
 have r:=run_of r1
 rw [boot_abs] at r
 obtain ⟨l1,l2,l3⟩:_∧_∧_:=by simpa only [Prod.mk.injEq] using r2
 unfold openEnds topFrom
 rw [e1]
 show (match (boot_heap w.params).isNs mainGlobals && (#[]:Array GenState).size == 0 with | true=>_ | false=>_:Option Shared).map _=_
 rw [boot_ns]
 show ((topRun treeTable p w (boot_heap w.params).objs.size _ N (bootA w os) (topStub p)).bind _).map _=_
 rw [r]
 show (match staticsOk (importedModules p.main.body) (boot_heap w.params) s.abs.heap && namesBound p s.abs.heap && gensDone s.abs && laidKept (boot_heap w.params) s.abs.heap with | true=>_ | false=>_:Option Shared).map _=_
 rw [l1]
 show some (openSeen q loose (importedModules p.main.body) Xt true s.abs,Yf s.abs)=some _
 rw [l2,l3]
noncomputable def tp (i:Nat):Stmt:=PySem.Challenge.pw_fadewalk_k11_joinings_and_papers_looked.main.body.getD i (.Pass ⟨0,0,0,0⟩)
noncomputable def view:Program:={ PySem.Challenge.pw_fadewalk_k11_joinings_and_papers_looked with main:={ PySem.Challenge.pw_fadewalk_k11_joinings_and_papers_looked.main with body:=[tp 1,tp 2,tp 3,tp 5,tp 6,tp 7,tp 9,tp 10,tp 11,tp 12,tp 13,tp 14,tp 15,tp 16,tp 17,tp 19,tp 20,tp 21,tp 22,tp 23,tp 24,tp 25,tp 26,tp 27,tp 29,tp 30,tp 31,tp 32,tp 33,tp 34,tp 35,tp 36,tp 37,tp 38,tp 39,tp 40,tp 41,tp 42,tp 43,tp 44,tp 45,tp 46,tp 47,tp 48,tp 49] } }
noncomputable def loos:List Str:=[]
noncomputable def lvs:List (Str×WData):=[]
noncomputable def lhs (B:Heap) (as:List Addr) (w:World) (os:OsState):=chk PySem.Challenge.pw_fadewalk_k11_joinings_and_papers_looked view loos (fun s=>xlAt view lvs s && recOk (RowW.records (OpenRow.toRowW (OpenLaw.row PySem.Challenge.rw_fadewalk_k11_joinings_and_papers_looked))) s) (fun s=>as.map s.heap.get?) 3794 B w os
noncomputable def rhs (K:Params->Frag) (w:World):=some (true,openGood view loos,(K w.params).map fun p=>some p.2)
lay_quick T.lhs T.rhs
theorem hook {K:Params->Frag}{as:List Addr}{e:∀ P,as=(K P).map (·.1)} (h:∀ (w:World) (os:OsState),PySem.W.Fast.tw12313586583820656202 (boot_heap w.params) as w os=PySem.W.Fast.tw7420988445182104193 K w) :
  LeftO PySem.Challenge.pw_fadewalk_k11_joinings_and_papers_looked view loos (fun s=>xlAt view lvs s && recOk (RowW.records (OpenRow.toRowW (OpenLaw.row PySem.Challenge.rw_fadewalk_k11_joinings_and_papers_looked))) s) (Hook.obs (kHook K as e)) (Hook.val (kHook K as e)) 3794:=
 left rfl (by decide) (fun _=>rfl) fun w os=>by
  show lhs (boot_heap w.params) as w os=rhs K w
  rw [PySem.W.Fast.te12313586583820656202,PySem.W.Fast.te7420988445182104193]
  exact h w os
local macro_rules
 | `(tactic| o_head $H)=>`(tactic| (
   refine PySem.W.holds_open (q:=T.view) (loose:=T.loos)
    (Xt:=fun s=>PySem.W.xlAt T.view T.lvs s && PySem.W.recOk (PySem.W.RowW.records (PySem.W.OpenRow.toRowW (PySem.W.OpenLaw.row PySem.Challenge.rw_fadewalk_k11_joinings_and_papers_looked))) s)
    (XP:=PySem.W.XL T.view T.lvs) (Yf:=PySem.W.Hook.obs $H) (Ya:=PySem.W.Hook.val $H)
    (YP:=PySem.W.Hook.says $H) (N:=3794) ?hl (PySem.W.Hook.of $H) (PySem.W.Hook.keeps $H)
    (fun s e=>PySem.W.xl_of s (Bool.and_eq_true_iff.mp e).1) PySem.W.XL.keeps rfl rfl rfl
    (fun s e=>PySem.W.recFacts_of (Bool.and_eq_true_iff.mp e).2) rfl
    (by first | assumption | decide +kernel) (by decide +kernel)
    ⟨rfl,rfl,rfl,rfl,rfl,by decide +kernel⟩ ?hw ?hc;(case hl=>exact T.hook (fun w os=>by kernel_rfl))))
open_top cut for PySem.Challenge.rw_fadewalk_k11_joinings_and_papers_looked
end T
set_option linter.all false
namespace L2
open PySem PySem.Spec PyProof.Rows
abbrev Key:=Sum Int Str
def keyIs:Key->Value->Bool
 |.inl k,v=>Value.isInt k v
 |.inr x,v=>Value.isStrOf x v
def keyH(w:World):Key->Int
 |.inl k=>hashInt k
 |.inr x=>hashStr w x
theorem keyIs_shape:∀ {k:Key}{v:Value},keyIs k v=true->(∃ i t,k=Sum.inl i∧v=Value.int i t)∨(∃ x t,k=Sum.inr x∧v=Value.str x t)
 |.inl i,v,h=>by
   obtain⟨t,e⟩:=Value.isInt_shape (k:=i) (v:=v) h
   exact .inl ⟨i,t,rfl,e⟩
 |.inr x,v,h=>by
   obtain⟨t,e⟩:=Value.isStrOf_shape (x:=x) (v:=v) h
   exact .inr ⟨x,t,rfl,e⟩
theorem keyIs_int(i:Int)(t:Tok):keyIs (.inl i) (.int i t)=true:=by simp[keyIs,Value.isInt]
theorem keyIs_str(x:Str)(t:Tok):keyIs (.inr x) (.str x t)=true:=by simp[keyIs,Value.isStrOf]
theorem key_ll(a b:Int):decide ((Sum.inl a:Key)=Sum.inl b)=(a==b):=by
 by_cases e:a=b
 ·subst e;simp
 ·have h:¬ (Sum.inl a:Key)=Sum.inl b:=fun q=>e (Sum.inl.inj q)
  rw[decide_eq_false h]
  exact (beq_eq_false_iff_ne.mpr e).symm
theorem key_rr(a b:Str):decide ((Sum.inr a:Key)=Sum.inr b)=decide (a=b):=by
 by_cases e:a=b
 ·subst e;simp
 ·have h:¬ (Sum.inr a:Key)=Sum.inr b:=fun q=>e (Sum.inr.inj q)
  rw[decide_eq_false h,decide_eq_false e]
theorem key_lr(a:Int)(b:Str):decide ((Sum.inl a:Key)=Sum.inr b)=false:=decide_eq_false (fun q=>nomatch q)
theorem key_rl(a:Str)(b:Int):decide ((Sum.inr a:Key)=Sum.inl b)=false:=decide_eq_false (fun q=>nomatch q)
def mixKind (prog:Program) (w:World):PySem.KeyKind prog w Key where
 is:=keyIs
 hash:=keyH w
 inj:=fun v a b ha hb=>by
  rcases keyIs_shape ha with ⟨i,t,rfl,rfl⟩ | ⟨x,t,rfl,rfl⟩
  ·rcases keyIs_shape hb with ⟨j,u,rfl,e⟩ | ⟨y,u,rfl,e⟩
   ·injection e with e1 _;rw[e1]
   ·exact nomatch e
  ·rcases keyIs_shape hb with ⟨j,u,rfl,e⟩ | ⟨y,u,rfl,e⟩
   ·exact nomatch e
   ·injection e with e1 _;rw[e1]
 byValue:=fun k v h=>by
  rcases keyIs_shape h with ⟨i,t,rfl,rfl⟩ | ⟨x,t,rfl,rfl⟩<;>rfl
 pyHash:=fun hv h=>by
  rcases keyIs_shape hv with ⟨i,t,rfl,rfl⟩ | ⟨x,t,rfl,rfl⟩
  ·exact wpAny_pyHash_int h
  ·exact wpAny_pyHash_str h
 eqBool:=fun hu hv h=>by
  rcases keyIs_shape hu with ⟨i,t,rfl,rfl⟩ | ⟨x,t,rfl,rfl⟩
  ·rcases keyIs_shape hv with ⟨j,u,rfl,rfl⟩ | ⟨y,u,rfl,rfl⟩
   ·rw[key_ll] at h;exact wpAny_eqBool_int h
   ·rw[key_lr] at h;exact SeqAt.EqAt.int_str i t y u _ _ _ _ h
  ·rcases keyIs_shape hv with ⟨j,u,rfl,rfl⟩ | ⟨y,u,rfl,rfl⟩
   ·rw[key_rl] at h;exact SeqAt.EqAt.str_int x t j u _ _ _ _ h
   ·rw[key_rr] at h;exact wpAny_eqBool_str h
 «strs»:=fun k x t v h=>by
  rcases keyIs_shape h with ⟨i,u,rfl,e⟩ | ⟨y,u,rfl,e⟩
  ·exact nomatch e
  ·injection e with e1 _
   subst e1
   cases v<;>rfl
theorem mixKind_int(prog:Program)(w:World)(i:Int)(t:Tok):(mixKind prog w).is (.inl i) (.int i t)=true:=keyIs_int i t
theorem mixKind_str(prog:Program)(w:World)(x:Str)(t:Tok):(mixKind prog w).is (.inr x) (.str x t)=true:=keyIs_str x t
open PySem PySem.Spec PyProof.Rows
inductive V where
 |non | bl (b:Bool) | int (i:Int) | str (x:Str) | byt (b:Array UInt8) | flt (b:UInt64) | ref (a:Addr) | ty (n:String)
 deriving DecidableEq
def RelV:V->Value->Prop
 |.non,u=>u=Value.none
 |.bl b,u=>u=Value.bool b
 |.int i,u=>∃t,u=Value.int i t
 |.str x,u=>∃t,u=Value.str x t
 |.byt b,u=>∃t,u=Value.bytes b t
 |.flt b,u=>∃t,u=Value.float b t
 |.ref a,u=>u=Value.ref a
 |.ty n,u=>u=Value.type n
abbrev Vals:List V->List Value->Prop:=Paired RelV
theorem Vals.length(r:Vals xs us):xs.length=us.length:=Paired.length r
theorem Vals.get:∀ {xs:List V}{us:List Value}{i:Nat}{x:V},Vals xs us->xs[i]?=some x->∃ u,us[i]?=some u∧RelV x u
 |_,_,_,_,.nil,e=>by simp at e
 |_,_,0,_,.cons r _,e=>by simp at e;subst e;exact⟨_,rfl,r⟩
 |_,_,i+1,x,.cons _ t,e=>by
   obtain⟨u,h1,h2⟩:=Vals.get (i:=i) (x:=x) t (by simpa using e)
   exact⟨u,by simpa using h1,h2⟩
theorem Vals.set(r:RelV x u):∀{xs:List V}{us:List Value} (i:Nat),Vals xs us->Vals (xs.set i x) (us.set i u)
 |_,_,_,.nil=>.nil
 |_,_,0,.cons _ t=>.cons r t
 |_,_,i+1,.cons q t=>.cons q (Vals.set r i t)
theorem Vals.append:∀{xs ys:List V}{us ws:List Value},Vals xs us->Vals ys ws->Vals (xs++ys) (us++ws)
 |_,_,_,_,.nil,s=>s
 |_,_,_,_,.cons r t,s=>.cons r (Vals.append t s)
theorem Vals.take:∀{xs:List V}{us:List Value} (n:Nat),Vals xs us->Vals (xs.take n) (us.take n)
 |_,_,0,_=>.nil
 |_,_,_+1,.nil=>.nil
 |_,_,n+1,.cons r t=>.cons r (Vals.take n t)
theorem Vals.drop:∀{xs:List V}{us:List Value} (n:Nat),Vals xs us->Vals (xs.drop n) (us.drop n)
 |_,_,0,r=>r
 |_,_,_+1,.nil=>.nil
 |_,_,n+1,.cons _ t=>Vals.drop n t
theorem Vals.none_of:∀{xs:List V}{us:List Value}{i:Nat},Vals xs us->xs[i]?=none->us[i]?=none:=fun {xs us i} r e=>by
 have h1:=r.length
 have h2:xs.length≤i:=List.getElem?_eq_none_iff.mp e
 exact List.getElem?_eq_none_iff.mpr (by lia)
def RelO:Option V->Option Value->Prop
 |some v,some u=>RelV v u
 |none,none=>True
 |_,_=>False
def KV{κ:Type}:List (κ×V)->List (κ×Value)->Prop:=Paired fun (p:κ×V) (q:κ×Value)=>p.1=q.1∧RelV p.2 q.2
def kV:Key->V
 |.inl i=>.int i
 |.inr x=>.str x
inductive HO where
 /-- a list -/
 |lst (xs:List V)
 /-- a tuple (never changes) -/
 |tup (xs:List V)
 /-- a dict whose keys are ints and texts;one whose keys are tuples of ints and texts (the empty one is both) -/
 |dK (kvs:List (Key×V)) | dT (kvs:List (List Key×V))
 /-- a set of ints: its members,its size -/
 |set (S:Int->Bool) (n:Nat)
 /-- an instance of the class at C,its dict at dx,its attributes -/
 |ins (C dx:Addr) (fs:List (Str×V))
 /-- the dict of the instance at x -/
 |own (x:Addr)
 /-- the dict of an exception -/
 |xd (fs:List (Str×V))
 /-- a bound method,f of x -/
 |met (f x:Addr)
 /-- a range object lo,lo+1,.. below hi -/
 |rng (lo hi:Int)
 /-- a thing that is known to the object (the script;a dict while a loop walks it): read,never written while it is so -/
 |frz (o:Obj) (u:HO)
 /-- a code object's table -/
 |tbl (ps:Array Value)
 /-- any other thing,by what is true of its one object (a def of one's own: SetO a S n:=HO.ext fun h=>..) -/
 |ext (φ:Heap->Prop)
abbrev Hp:=Addr->Option HO
def upd(H:Hp)(a:Addr)(o:HO):Hp:=fun b=>if b=a then some o else H b
theorem upd_same{H:Hp}{a:Addr}{o:HO}:upd H a o a=some o:=by unfold upd;rw[if_pos rfl]
theorem upd_ne{H:Hp}{a b:Addr}{o:HO}(h:b≠a):upd H a o b=H b:=by unfold upd;rw[if_neg h]
theorem upd_upd:upd (upd H a o) a u=upd H a u:=by
 funext b;unfold upd;split<;>rfl
theorem ne_of_none{H:Hp}{a b:Addr}{o:HO}(h:H a=some o)(h':H b=none):a≠b:=by
 intro e;subst e;rw[h] at h';cases h'
section
variable(P:Program)(w:World)
def ObjOk (H:Hp) (h:Heap) (a:Addr):HO->Prop
 |.lst xs=>xs.length≤sizeLine∧∃(its:List Value) (n:Nat),Vals xs its∧h.get? a=some { cls:=.type "list",data:=.seq its.toArray n }
 |.tup xs=>xs.length≤sizeLine∧∃its:List Value,Vals xs its∧IsTup h a its.toArray
 |.dK kvs=>kvs.length≤sizeLine∧(a==sysModules)=false∧∃vs,KV kvs vs∧h.DictOf (mixKind P w) a vs
 |.dT kvs=>kvs.length≤sizeLine∧(a==sysModules)=false∧∃xs:List (List Key×Addr×Value),
   Paired (fun (p:List Key×V) (q:List Key×Addr×Value)=>p.1=q.1∧H q.2.1=some (.tup (p.1.map kV))∧RelV p.2 q.2.2) kvs xs ∧
   ∃o es ep,h.get? a=some o∧o.ExactDict∧o.data=.dict es ep∧es.toList=xs.map (entryOfKey (tupleKind (mixKind P w)))∧(xs.map (·.1)).Nodup
 |.set S n=>h.SetOf (intKind P w) a S n
 |.ins C dx fs=>H dx=some (.own a)∧fs.length≤1000∧dx≠a∧h.get? a=some (PySem.W.instObj C dx) ∧
   ∃mA,h.Ns1 dx mA∧(∀f,RelO (fs.lookup f) (mA f))∧PySem.Within mA (fs.map (·.1))
 |.own _=>∃o,h.get? a=some o
 |.xd fs=>∃mA,h.Ns1 a mA∧∀f,RelO (fs.lookup f) (mA f)
 |.rng lo hi=>∃t u v,h.get? a=some { cls:=.type "range",data:=.fields #[.int lo t,.int hi u,.int 1 v] }
 |.frz o u=>h.get? a=some o∧ObjOk H h a u
 |.tbl ps=>h.get? a=some { cls:=.none,data:=.fields ps }
 |.met f x=>h.get? a=some (PySem.W.methodObj (.ref f) (.ref x))
 |.ext φ=>φ h∧(∃o,h.get? a=some o)∧∀h1 h2:Heap,φ h1->(∀o,h1.get? a=some o->h2.get? a=some o)->φ h2
def HOk(H:Hp)(h:Heap):Prop:=∀a o,H a=some o->ObjOk P w H h a o
end
section
variable{P:Program}{w:World}{H H':Hp}{h h':Heap}{a:Addr}{o:HO}
theorem ObjOk.lt(x:ObjOk P w H h a o):a<h.objs.size:=by
 cases o with
 |lst xs=>obtain⟨_,_,_,_,e⟩:=x;exact Heap.lt_size e
 |tup xs=>obtain⟨_,_,_,p⟩:=x;exact p.lt
 |dK kvs=>obtain⟨_,_,_,_,o,_,_,e,_⟩:=x;exact Heap.lt_size e
 |dT kvs=>obtain⟨_,_,_,_,o,_,_,e,_⟩:=x;exact Heap.lt_size e
 |set S n=>obtain⟨o,_,_,_,e,_⟩:=x;exact Heap.lt_size e
 |ins C dx fs=>obtain⟨_,_,_,e,_⟩:=x;exact Heap.lt_size e
 |own y=>obtain⟨_,e⟩:=x;exact Heap.lt_size e
 |xd fs=>obtain⟨_,⟨_,_,_,e,_⟩,_⟩:=x;exact Heap.lt_size e
 |rng lo hi=>obtain⟨_,_,_,e⟩:=x;exact Heap.lt_size e
 |frz ob u=>obtain⟨e,_⟩:=x;exact Heap.lt_size e
 |tbl ps=>exact Heap.lt_size (show h.get? a=some _ from x)
 |met f y=>exact Heap.lt_size (show h.get? a=some _ from x)
 |ext φ=>obtain⟨_,⟨_,e⟩,_⟩:=x;exact Heap.lt_size e
theorem Paired.mapP:∀{l₁:List α}{l₂:List β},Paired F l₁ l₂->(∀a b,F a b->G a b)->Paired G l₁ l₂
 |_,_,.nil,_=>.nil
 |_,_,.cons r t,f=>.cons (f _ _ r) (Paired.mapP t f)
theorem ObjOk.stay (x:ObjOk P w H h a o) (k:∀ b u,(b=a∨H b=some (.own a))->h.get? b=some u->h'.get? b=some u)
  (ho:∀b,H b=some (.own a)->H' b=some (.own a)) (ht:∀b xs,H b=some (.tup xs)->H' b=some (.tup xs)):ObjOk P w H' h' a o:=by
 induction o with
 |lst xs=>obtain⟨z,its,n,r,e⟩:=x;exact⟨z,its,n,r,k _ _ (.inl rfl) e⟩
 |tup xs=>obtain⟨z,its,r,ob,e,c⟩:=x;exact⟨z,its,r,ob,k _ _ (.inl rfl) e,c⟩
 |dK kvs=>obtain⟨z,y,vs,r,ob,es,ep,e,c⟩:=x;exact⟨z,y,vs,r,ob,es,ep,k _ _ (.inl rfl) e,c⟩
 |dT kvs=>
   obtain⟨z,y,xs,r,ob,es,ep,e,c⟩:=x
   exact⟨z,y,xs,Paired.mapP r fun p q z=>⟨z.1,ht _ _ z.2.1,z.2.2⟩,ob,es,ep,k _ _ (.inl rfl) e,c⟩
 |set S n=>obtain⟨ob,es,ep,t,e,c⟩:=x;exact⟨ob,es,ep,t,k _ _ (.inl rfl) e,c⟩
 |ins C dx fs=>
   obtain⟨d,z,ne,e,mA,⟨od,es,ep,e2,c⟩,r⟩:=x
   exact⟨ho _ d,z,ne,k _ _ (.inl rfl) e,mA,⟨od,es,ep,k _ _ (.inr d) e2,c⟩,r⟩
 |own y=>obtain⟨ob,e⟩:=x;exact⟨ob,k _ _ (.inl rfl) e⟩
 |xd fs=>obtain⟨mA,⟨od,es,ep,e,c⟩,r⟩:=x;exact⟨mA,⟨od,es,ep,k _ _ (.inl rfl) e,c⟩,r⟩
 |rng lo hi=>obtain⟨t,u,v,e⟩:=x;exact⟨t,u,v,k _ _ (.inl rfl) e⟩
 |frz ob u ih=>obtain⟨e,q⟩:=x;exact⟨k _ _ (.inl rfl) e,ih q⟩
 |tbl ps=>
   have e:h.get? a=some { cls:=.none,data:=.fields ps }:=x
   show h'.get? a=some { cls:=.none,data:=.fields ps }
   exact k a _ (.inl rfl) e
 |met f y=>
   have e:h.get? a=some (PySem.W.methodObj (.ref f) (.ref y)):=x
   show h'.get? a=some (PySem.W.methodObj (.ref f) (.ref y))
   exact k a _ (.inl rfl) e
 |ext φ=>obtain⟨p,⟨o,e⟩,st⟩:=x;exact⟨st _ _ p fun o q=>k _ _ (.inl rfl) q,⟨o,k _ _ (.inl rfl) e⟩,st⟩
theorem HOk.lt(x:HOk P w H h)(e:H a=some o):a<h.objs.size:=(x a o e).lt
theorem HOk.fresh(x:HOk P w H h)(e:h.objs.size≤a):H a=none:=by
 cases q:H a with
 |none=>rfl
 |some u=>exact absurd (Nat.lt_of_lt_of_le (x.lt q) e) (Nat.lt_irrefl _)
theorem HOk.kept(x:HOk P w H h)(k:∀b u,h.get? b=some u->h'.get? b=some u):HOk P w H h':=fun a o e=>
 (x a o e).stay (fun b u _ q=>k b u q) (fun _ q=>q) fun _ _ q=>q
theorem HOk.laid(x:HOk P w H h)(k:∀b u,h.get? b=some u->h'.get? b=some u)(hp:h.objs.size≤a)(new:ObjOk P w (upd H a o) h' a o):HOk P w (upd H a o) h':=fun b u e=>by
 have hn:=x.fresh hp
 by_cases hb:b=a
 ·subst hb;rw[upd_same] at e;cases e;exact new
 ·rw[upd_ne hb] at e
  exact (x b u e).stay (fun c v _ q=>k c v q) (fun c q=>by rw[upd_ne (ne_of_none q hn)];exact q) fun c xs q=>by rw[upd_ne (ne_of_none q hn)];exact q
end
def Rd(H:Hp)(a:Addr)(u:HO):Prop:=H a=some u∨∃o,H a=some (.frz o u)
theorem Rd.ok(r:Rd H a u)(x:HOk P w H h):ObjOk P w H h a u:=by
 rcases r with r | ⟨o,r⟩
 ·exact x a u r
 ·obtain⟨_,q⟩:=x a _ r
  exact q
def Mut:Option HO->Prop
 |some (.lst _)=>True
 |some (.dK _)=>True
 |some (.dT _)=>True
 |some (.set _ _)=>True
 |some (.ins _ _ _)=>True
 |some (.ext _)=>True
 |_=>False
section
variable{P:Program}{w:World}{H:Hp}{h h':Heap}{x e:Addr}{o':HO}
theorem HOk.write (ok:HOk P w H h) (mu:Mut (H x)) (he:e=x∨H e=some (.own x)) (k:∀ b u,b≠e->h.get? b=some u->h'.get? b=some u) (heo:∃ u,h'.get? e=some u)
  (new:ObjOk P w (upd H x o') h' x o'):HOk P w (upd H x o') h':=fun b u q=>by
 have nown:∀c y,H c=some (.own y)->c≠x:=fun c y r z=>by subst z;rw[r] at mu;exact mu
 have ntup:∀c xs,H c=some (.tup xs)->c≠x:=fun c xs r z=>by subst z;rw[r] at mu;exact mu
 by_cases hb:b=x
 ·subst hb;rw[upd_same] at q;cases q;exact new
 ·rw [upd_ne hb] at q
  by_cases hbe:b=e
  ·have q':H b=some (.own x):=by
    rcases he with z | z
    ·exact absurd (hbe.trans z) hb
    ·rw[hbe];exact z
   rw[q] at q';cases q'
   obtain⟨v,hv⟩:=heo
   exact⟨v,by rw[hbe];exact hv⟩
  ·refine (ok b u q).stay (fun c v hc r=>k c v ?_ r) (fun c r=>by rw[upd_ne (nown c b r)];exact r) fun c xs r=>by rw[upd_ne (ntup c xs r)];exact r
   rcases hc with rfl | hc
   ·exact hbe
   ·rintro rfl
    rcases he with z | z
    ·exact nown c b hc z
    ·rw[hc] at z;cases z;exact hb rfl
end
structure Un(fs ex:List Addr)(H H':Hp)(h h':Heap):Prop where
 keep:∀b o,h.get? b=some o->H b=none->b∉fs->b∉ex->h'.get? b=some o
 slot:∀b o,h.get? b=some o->H b=none->b∈fs->b∉ex->∃sl,h'.get? b=some { o with slots:=sl }
 free:∀b o,h.get? b=some o->H b=none->b∉ex->H' b=none
 there:∀b o,h.get? b=some o->b∉ex->∃o',h'.get? b=some o'
 tups:∀b xs,H b=some (.tup xs)->H' b=some (.tup xs)
 frzs:∀b o u,H b=some (.frz o u)->H' b=some (.frz o u)
 tbls:∀b ps,H b=some (.tbl ps)->∃more,H' b=some (.tbl (ps++more))
section
variable{fs fs' ex ex':List Addr}{H H1 H2:Hp}{h h1 h2 h':Heap}{a x e:Addr}{o:HO}
theorem Un.any(u:Un fs ex H H1 h h1)(q:h.get? b=some ob)(n:H b=none)(hx:b∉ex):∃sl,h1.get? b=some { ob with slots:=sl }:=by
 by_cases hb:b∈fs
 ·exact u.slot b ob q n hb hx
 ·exact⟨ob.slots,u.keep b ob q n hb hx⟩
theorem Un.kept(k:∀b u,h.get? b=some u->h'.get? b=some u):Un fs ex H H h h':=
 ⟨fun b ob q _ _ _=>k b ob q,fun b ob q _ _ _=>⟨ob.slots,k b ob q⟩,fun _ _ _ n _=>n,fun b ob q _=>⟨ob,k b ob q⟩,fun _ _ q=>q,fun _ _ _ q=>q,fun _ ps q=>⟨#[],by rw[q];simp⟩⟩
theorem Un.refl:Un fs ex H H h h:=Un.kept fun _ _ q=>q
theorem Un.laid(k:∀b u,h.get? b=some u->h'.get? b=some u)(hp:h.objs.size≤a)(hn:H a=none):Un fs ex H (upd H a o) h h' where
 keep:=fun b u q _ _ _=>k b u q
 slot:=fun b u q _ _ _=>⟨u.slots,k b u q⟩
 free:=fun b u q n _=>by rw[upd_ne (Nat.ne_of_lt (Nat.lt_of_lt_of_le (Heap.lt_size q) hp))];exact n
 there:=fun b u q _=>⟨u,k b u q⟩
 tups:=fun b xs q=>by rw[upd_ne (ne_of_none q hn)];exact q
 frzs:=fun b u xs q=>by rw[upd_ne (ne_of_none q hn)];exact q
 tbls:=fun b ps q=>⟨#[],by rw[upd_ne (ne_of_none q hn),q];simp⟩
theorem Un.write(mu:Mut (H x))(he:e=x∨H e=some (.own x))(k:∀b u,b≠e->h.get? b=some u->h'.get? b=some u)(heo:∃u,h'.get? e=some u):Un fs ex H (upd H x o) h h':=by
 have hx:∀b,H b=none->b≠x:=fun b n z=>by subst z;rw[n] at mu;exact mu
 have hb:∀b,H b=none->b≠e:=fun b n z=>by
  subst z
  rcases he with r | r
  ·exact hx b n r
  ·rw[n] at r;cases r
 have hm:∀b u,H b=some u->¬ Mut (some u)->b≠x:=fun b u q nm z=>by subst z;rw[q] at mu;exact nm mu
 refine⟨fun b u q n _ _=>k b u (hb b n) q,fun b u q n _ _=>⟨u.slots,k b u (hb b n) q⟩,fun b u q n _=>by rw[upd_ne (hx b n)];exact n,fun b u q _=>?_,
  fun b xs q=>by rw[upd_ne (hm b _ q fun z=>z)];exact q,fun b u xs q=>by rw[upd_ne (hm b _ q fun z=>z)];exact q,fun b ps q=>⟨#[],by rw[upd_ne (hm b _ q fun z=>z),q];simp⟩⟩
 by_cases hbe:b=e
 ·subst hbe;exact heo
 ·exact⟨u,k b u hbe q⟩
end
def trk(h:Heap)(H:Hp):List Addr:=(List.range h.objs.size).filter fun a=>(H a).isSome
def hidT(h:Heap)(H:Hp):Heap:=PySem.W.hideAll h (trk h H)
theorem hidT_size(h:Heap)(H:Hp):(hidT h H).objs.size=h.objs.size:=PySem.W.hideAll_size _ _
theorem hidT_get(e:h.get? b=some o)(n:H b=none):(hidT h H).get? b=some o:=
 PySem.W.hideAll_get _ e fun hm=>by
  have q:(H b).isSome=true:=(List.mem_filter.mp hm).2
  rw[n] at q;simp at q
theorem of_hidT (e:(hidT h H).get? b=some o):h.get? b=some o∧H b=none:=by
 have e':h.get? b=some o:=PySem.W.of_hideAll (trk h H) e
 refine⟨e',?_⟩
 cases q:H b with
 |none=>rfl
 |some x=>
   have hm:b∈trk h H:=List.mem_filter.mpr ⟨List.mem_range.mpr (Heap.lt_size e'),by simp[q]⟩
   have z:(hidT h H).get? b=none:=PySem.W.hideAll_none (trk h H) hm
   rw[z] at e;cases e
def allNews(g h:Heap)(L:Addr):List (Addr×Obj):=(List.range h.objs.size).filterMap fun a=>if a=L∨(g.get? a).isSome=true then none else (h.get? a).map fun o=>(a,o)
def rest(g h:Heap)(L d:Addr):List (Addr×Obj):=(allNews g h L).filter fun p=>decide (p.1≠d)
open PySem PySem.Spec PyProof.Rows
structure Mod(K:PySem.W.Frag)(mg:Str->Option Value)(base:Heap):Prop where
 kin:K.In base
 glob:base.Ns mainGlobals mg
 blt:∃mb,base.Ns builtinsNs mb∧∀x:Str,x≠"__name__"->mb x=bootBuiltins x
 nolimit:base.NoLimit
structure Cx where
 prog:Program
 w:World
 K:PySem.W.Frag
 mg:Str->Option Value
 base:Heap
 A:Around
 N:List Str
 s₀:Shared
 H₀:Hp
 env:Env
 outer:List Env
 stack:List Env
 ex:List Addr
 fn:Str->Bool
 calm:Bool
 pn:List (Addr×Obj)
 xe:Value->Shared->Prop
def frs(l:List Env):List Addr:=l.filterMap (·.frame)
abbrev Cx.fs(X:Cx):List Addr:=frs X.outer
def Vis(sc:Scope)(x:Str):Prop:=sc.names.lookup x=some .local∨sc.names.lookup x=some .cell∨sc.names.lookup x=some .free
def Loc(sc:Scope)(x:Str):Prop:=sc.names.lookup x=some .local∨sc.names.lookup x=some .cell
def Look(env:Env)(h:Heap)(m:Str->Option Value)(x:Str)(u:Value):Prop:=
 (env.kindOf x=some .local∧m x=some u)∨((env.kindOf x=some .cell∨env.kindOf x=some .free)∧∃c,env.cells.lookup x=some c∧h.IsCell c (some u))
structure Cx.Ok(X:Cx):Prop where
 mod:Mod X.K X.mg X.base
 kind:X.env.scope.kind=.function
 glob:X.env.globals=mainGlobals
 blt:X.env.builtins=builtinsNs
 above:X.s₀.heap.objs.size≤X.env.locals
 inj:∀x y c,X.env.cells.lookup x=some c->X.env.cells.lookup y=some c->x=y
 has:∀x,(X.env.kindOf x=some .cell∨X.env.kindOf x=some .free)->∃c,X.env.cells.lookup x=some c
 cab:∀x c,X.fn x=true->X.env.cells.lookup x=some c->X.s₀.heap.objs.size≤c
 hd:X.calm=true->X.A.handled=none
 frames:X.A.frames=some X.stack
 stk:X.stack=X.outer∨(X.stack=X.env::X.outer∧X.env.frame=some X.env.locals)
 exf:∀b∈X.ex,b≠X.env.locals∧∀x c,X.env.cells.lookup x=some c->c≠b
 bs:∀b o,X.base.get? b=some o->X.s₀.heap.get? b=some o∧X.H₀ b=none
 bsz:X.base.objs.size≤X.s₀.heap.objs.size
 noex:∀b o,X.base.get? b=some o->b∉X.ex
 exfs:∀b∈X.ex,b∉X.fs
 funs:X.s₀.heap.FunFrames X.base X.outer
 frf:∀b∈X.fs,X.H₀ b=none
structure Inv(X:Cx)(pins:List (Addr×Obj))(σ:List (Option V))(H:Hp)(s:Shared):Prop where
 ok:X.Ok
 os:s.os=X.s₀.os
 bare:AllBare s.gens
 base:Un X.fs X.ex X.H₀ H X.s₀.heap s.heap
 loc:∃m,s.heap.Ns X.env.locals m∧∀(i:Nat) (x:Str) (v:V),X.N[i]?=some x->σ[i]?=some (some v)->Vis X.env.scope x->∃u,RelV v u∧Look X.env s.heap m x u
 cell:∀x c,X.env.cells.lookup x=some c->∃v,s.heap.IsCell c v
 free:H X.env.locals=none
 freeC:∀x c,X.env.cells.lookup x=some c->H c=none
 pin:∀p∈X.pn++pins,s.heap.get? p.1=some p.2∧H p.1=none∧p.1≠X.env.locals∧p.1∉X.fs∧∀v,p.2.data≠.cell v
 hok:HOk X.prog X.w H s.heap
 len:σ.length=X.N.length
section
variable{X:Cx}{pins:List (Addr×Obj)}{σ:List (Option V)}{H H':Hp}{s:Shared}{h':Heap}
theorem Cx.Ok.nofr(ok:X.Ok)(e:X.base.get? b=some o):b∉X.fs:=fun hb=>by
 have:=(ok.funs.mem hb).1
 rw[e] at this;cases this
theorem Inv.bs(I:Inv X pins σ H s):∀b o,X.base.get? b=some o->s.heap.get? b=some o∧H b=none:=fun b o e=>
 ⟨I.base.keep b o (I.ok.bs b o e).1 (I.ok.bs b o e).2 (I.ok.nofr e) (I.ok.noex b o e),I.base.free b o (I.ok.bs b o e).1 (I.ok.bs b o e).2 (I.ok.noex b o e)⟩
theorem Inv.bk(I:Inv X pins σ H s):∀b o,X.base.get? b=some o->s.heap.get? b=some o:=fun b o e=>(I.bs b o e).1
theorem Inv.mod(I:Inv X pins σ H s):Mod X.K X.mg X.base:=I.ok.mod
theorem Inv.kIn(I:Inv X pins σ H s):X.K.In s.heap:=I.ok.mod.kin.keeps I.bk
theorem Inv.fr(I:Inv X pins σ H s):∃m,Fr X.base X.env.locals s.heap m:=
 let ⟨m,hn,_⟩:=I.loc
 ⟨m,hn,I.bk,Nat.le_trans I.ok.bsz I.ok.above⟩
theorem Inv.lt(I:Inv X pins σ H s):X.env.locals<s.heap.objs.size:=let ⟨_,hn,_⟩:=I.loc;hn.lt
theorem Inv.sz(I:Inv X pins σ H s):X.s₀.heap.objs.size≤s.heap.objs.size:=Nat.le_trans I.ok.above (Nat.le_of_lt I.lt)
theorem Inv.nofs(I:Inv X pins σ H s)(h:s.heap.objs.size≤a):a∉X.fs:=fun hb=>by
 obtain⟨_,o,ho,_⟩:=I.ok.funs.mem hb
 exact absurd (Nat.lt_of_lt_of_le (Heap.lt_size ho) (Nat.le_trans I.sz h)) (Nat.lt_irrefl _)
theorem Inv.cne(I:Inv X pins σ H s):∀x c,X.env.cells.lookup x=some c->c≠X.env.locals:=fun x c e z=>by
 obtain⟨v,o,ho,hd⟩:=I.cell x c e
 obtain⟨m,⟨o',es,ep,ho',hd',_⟩,_⟩:=I.loc
 rw[z,ho'] at ho;cases ho;rw[hd'] at hd;cases hd
theorem Inv.funs (I:Inv X pins σ H s):s.heap.FunFrames X.base X.outer:=by
 have all:∀ (l:List Env),(∀ b∈frs l,b∈X.fs)->X.s₀.heap.FunFrames X.base l->s.heap.FunFrames X.base l:=by
  intro l
  induction l with
  |nil=>intro _ _;trivial
  |cons env r ih=>
    intro hs hl
    obtain⟨hk,⟨L,o,hf,hn,ho,hd⟩,hr⟩:=hl
    have hL:L∈X.fs:=hs L (by unfold frs;rw[List.filterMap_cons,hf];exact List.mem_cons_self)
    obtain⟨sl,e⟩:=I.base.slot L o ho (I.ok.frf L hL) hL fun z=>I.ok.exfs L z hL
    exact⟨hk,⟨L,_,hf,hn,e,hd⟩,ih (fun b hb=>hs b (by unfold frs;rw[List.filterMap_cons,hf];exact List.mem_cons_of_mem _ hb)) hr⟩
 exact all X.outer (fun _ hb=>hb) I.ok.funs
theorem Inv.stack(I:Inv X pins σ H s):s.heap.FunFrames X.base X.stack:=by
 rcases I.ok.stk with e | ⟨e,hf⟩
 ·rw[e];exact I.funs
 ·rw[e]
  obtain⟨m,hn,_⟩:=I.loc
  refine .cons (by rw[I.ok.kind];decide) hf hn ?_ I.funs
  exact Heap.get?_none_of_le (Nat.le_trans I.ok.bsz I.ok.above)
theorem Inv.stkSub(I:Inv X pins σ H s):∀b∈frs X.stack,b∈X.env.locals::X.fs:=fun b hb=>by
 rcases I.ok.stk with e | ⟨e,hf⟩
 ·rw[e] at hb;exact List.mem_cons_of_mem _ hb
 ·rw[e] at hb
  unfold frs at hb
  rw[List.filterMap_cons,hf] at hb
  exact hb
theorem Inv.stkFree(I:Inv X pins σ H s):∀b∈frs X.stack,H b=none:=fun b hb=>by
 rcases List.mem_cons.mp (I.stkSub b hb) with e | hb
 ·rw[e];exact I.free
 ·obtain⟨_,o,ho,_⟩:=I.ok.funs.mem hb
  exact I.base.free b o ho (I.ok.frf b hb) fun z=>I.ok.exfs b z hb
theorem Inv.step {g':Array GenState}{t':Nat}{ch:List Addr} (I:Inv X pins σ H s)
  (hch:∀b∈ch,(b∈X.ex∨X.s₀.heap.objs.size≤b)∧b≠X.env.locals∧(∀x c,X.env.cells.lookup x=some c->c≠b)∧∀p∈X.pn++pins,p.1≠b)
  (keep:∀b o,b≠X.env.locals->b∉X.fs->b∉ch->s.heap.get? b=some o->H b=none->h'.get? b=some o)
  (slot:∀b o,b≠X.env.locals->b∈X.fs->b∉ch->s.heap.get? b=some o->H b=none->∃sl,h'.get? b=some { o with slots:=sl }) (free:∀b o,b∉ch->s.heap.get? b=some o->H b=none->H' b=none)
  (there:∀b o,b∉ch->s.heap.get? b=some o->∃o',h'.get? b=some o')
  (tups:∀b xs,H b=some (.tup xs)->H' b=some (.tup xs)) (frzs:∀b o u,H b=some (.frz o u)->H' b=some (.frz o u)) (tbls:∀b ps,H b=some (.tbl ps)->∃more,H' b=some (.tbl (ps++more)))
  (ns:∀m,s.heap.Ns X.env.locals m->h'.Ns X.env.locals m) (hok:HOk X.prog X.w H' h') (hg:AllBare g') :
  Inv X pins σ H' { s with heap:=h',gens:=g',drawn:=d',toks:=t' }:=by
 have neL:∀b o,X.s₀.heap.get? b=some o->b≠X.env.locals:=fun b o e=>Nat.ne_of_lt (Nat.lt_of_lt_of_le (Heap.lt_size e) I.ok.above)
 have neC:∀b o,X.s₀.heap.get? b=some o->b∉X.ex->b∉ch:=fun b o e hx hb=>by
  rcases (hch b hb).1 with z | z
  ·exact hx z
  ·exact absurd (Nat.lt_of_lt_of_le (Heap.lt_size e) z) (Nat.lt_irrefl _)
 have cellK:∀x c,X.env.cells.lookup x=some c->∀v,s.heap.IsCell c v->h'.IsCell c v:=fun x c e v ⟨o,ho,hd⟩=>by
  have nch:c∉ch:=fun z=>(hch c z).2.2.1 x c e rfl
  by_cases hc:c∈X.fs
  ·obtain⟨sl,q⟩:=slot c o (I.cne x c e) hc nch ho (I.freeC x c e)
   exact⟨_,q,hd⟩
  ·exact⟨o,keep c o (I.cne x c e) hc nch ho (I.freeC x c e),hd⟩
 refine⟨I.ok,I.os,hg,⟨fun b o e n hb hx=>?_,fun b o e n hb hx=>?_,fun b o e n hx=>?_,fun b o e hx=>?_,fun b xs e=>tups b xs (I.base.tups b xs e),fun b o xs e=>frzs b o xs (I.base.frzs b o xs e),fun b ps e=>?_⟩,?_,fun x c e=>?_,?_,fun x c e=>?_,fun p hp=>?_,hok,I.len⟩
 ·exact keep b o (neL b o e) hb (neC b o e hx) (I.base.keep b o e n hb hx) (I.base.free b o e n hx)
 ·obtain⟨sl,e1⟩:=I.base.slot b o e n hb hx
  obtain⟨sl',e2⟩:=slot b _ (neL b o e) hb (neC b o e hx) e1 (I.base.free b o e n hx)
  exact⟨sl',e2⟩
 ·obtain⟨o',e1⟩:=I.base.there b o e hx
  exact free b o' (neC b o e hx) e1 (I.base.free b o e n hx)
 ·obtain⟨o',e1⟩:=I.base.there b o e hx
  exact there b o' (neC b o e hx) e1
 ·obtain⟨m1,e1⟩:=I.base.tbls b ps e
  obtain⟨m2,e2⟩:=tbls b _ e1
  exact⟨m1++m2,by rw[e2,Array.append_assoc]⟩
 ·obtain⟨m,hn,hl⟩:=I.loc
  refine⟨m,ns m hn,fun i x v e1 e2 e3=>?_⟩
  obtain⟨u,r,l⟩:=hl i x v e1 e2 e3
  refine⟨u,r,?_⟩
  rcases l with l | ⟨k,c,e,z⟩
  ·exact .inl l
  ·exact .inr ⟨k,c,e,cellK x c e _ z⟩
 ·obtain⟨v,z⟩:=I.cell x c e
  exact⟨v,cellK x c e v z⟩
 ·obtain⟨m,⟨o,_,_,ho,_⟩,_⟩:=I.loc
  exact free _ o (fun z=>(hch _ z).2.1 rfl) ho I.free
 ·obtain⟨v,o,ho,hd⟩:=I.cell x c e
  exact free c o (fun z=>(hch c z).2.2.1 x c e rfl) ho (I.freeC x c e)
 ·obtain⟨e,n,ne,nf,d⟩:=I.pin p hp
  have nch:p.1∉ch:=fun z=>(hch p.1 z).2.2.2 p hp rfl
  exact⟨keep p.1 p.2 ne nf nch e n,free p.1 p.2 nch e n,ne,nf,d⟩
theorem Inv.un{t':Nat}(I:Inv X pins σ H s)(u:Un X.fs [] H H' s.heap h')(hok:HOk X.prog X.w H' h'):Inv X pins σ H' { s with heap:=h',toks:=t' }:=by
 obtain⟨m,⟨o,es,ep,ho,r⟩,_⟩:=id I.loc
 obtain⟨sl,hL⟩:=u.any ho I.free (by simp)
 exact I.step (g':=s.gens) (d':=s.drawn) (ch:=[]) (fun _ z=>nomatch z) (fun b o _ hb _ e n=>u.keep b o e n hb (by simp)) (fun b o _ hb _ e n=>u.slot b o e n hb (by simp)) (fun b o _ e n=>u.free b o e n (by simp)) (fun b o _ e=>u.there b o e (by simp)) u.tups u.frzs u.tbls (fun m' hm=>by
  obtain⟨o',es',ep',ho',r'⟩:=hm
  rw[ho] at ho';cases ho'
  exact⟨_,es',ep',hL,r'⟩) hok I.bare
theorem Inv.call{g':Array GenState}{t':Nat}{ch:List Addr}(I:Inv X pins σ H s)(u:Un (frs X.stack) ch H H' s.heap h')(hok:HOk X.prog X.w H' h')(hg:AllBare g')
  (hch:∀b∈ch,(b∈X.ex∨X.s₀.heap.objs.size≤b)∧b≠X.env.locals∧(∀x c,X.env.cells.lookup x=some c->c≠b)∧∀p∈X.pn++pins,p.1≠b) :
  Inv X pins σ H' { s with heap:=h',gens:=g',drawn:=d',toks:=t' }:=by
 obtain⟨m,⟨o,es,ep,ho,r⟩,_⟩:=id I.loc
 obtain⟨sl,hL⟩:=u.any ho I.free fun z=>(hch _ z).2.1 rfl
 exact I.step (ch:=ch) hch (fun b o hL hb hc e n=>u.keep b o e n (fun z=>(List.mem_cons.mp (I.stkSub b z)).elim hL hb) hc) (fun b o _ _ hc e n=>u.any e n hc) (fun b o hc e n=>u.free b o e n hc) (fun b o hc e=>u.there b o e hc) u.tups u.frzs u.tbls (fun m' hm=>by
  obtain⟨o',es',ep',ho',r'⟩:=hm
  rw[ho] at ho';cases ho'
  exact⟨_,es',ep',hL,r'⟩) hok hg
theorem Inv.turned{t':Nat}(I:Inv X pins σ H s)(k:∀b o,b≠it->s.heap.get? b=some o->h'.get? b=some o)(hn:H it=none)(hL:it≠X.env.locals)
  (h1:it∈X.ex∨X.s₀.heap.objs.size≤it) (h2:∀x c,X.env.cells.lookup x=some c->c≠it) (h3:∀p∈X.pn++pins,p.1≠it):Inv X pins σ H { s with heap:=h',toks:=t' }:=by
 have nit:∀b u,H b=some u->b≠it:=fun b u e z=>by rw[z,hn] at e;cases e
 refine I.step (g':=s.gens) (d':=s.drawn) (ch:=[it]) (fun b hb=>?_) (fun b o _ _ hc e _=>k b o (fun z=>hc (by simp[z])) e) (fun b o _ _ hc e _=>⟨o.slots,k b o (fun z=>hc (by simp[z])) e⟩) (fun _ _ _ _ n=>n)
  (fun b o hc e=>⟨o,k b o (fun z=>hc (by simp[z])) e⟩) (fun _ _ e=>e) (fun _ _ _ e=>e) (fun b ps e=>⟨#[],by rw[e];simp⟩) (fun m hm=>?_) (fun b u e=>?_) I.bare
 ·have e:b=it:=by simpa using hb
  subst e
  exact⟨h1,hL,h2,h3⟩
 ·obtain⟨o,es,ep,ho,r⟩:=hm
  exact⟨o,es,ep,k _ o (Ne.symm hL) ho,r⟩
 ·refine (I.hok b u e).stay (fun c v hc q=>k c v ?_ q) (fun _ q=>q) fun _ _ q=>q
  rcases hc with z | z
  ·rw[z];exact nit b u e
  ·exact nit c _ z
theorem Inv.tok(I:Inv X pins σ H s)(t:Nat):Inv X pins σ H { s with toks:=t }:=I.un (h':=s.heap) (t':=t) Un.refl I.hok
theorem Inv.kept(I:Inv X pins σ H s)(k:∀b u,s.heap.get? b=some u->h'.get? b=some u):Inv X pins σ H { s with heap:=h',toks:=t' }:=I.un (Un.kept k) (I.hok.kept k)
theorem Inv.laid(I:Inv X pins σ H s)(k:∀b u,s.heap.get? b=some u->h'.get? b=some u)(hp:s.heap.objs.size≤a)(new:ObjOk X.prog X.w (upd H a o) h' a o) :
  Inv X pins σ (upd H a o) { s with heap:=h',toks:=t' }:=I.un (Un.laid k hp (I.hok.fresh hp)) (I.hok.laid k hp new)
theorem Inv.write(I:Inv X pins σ H s)(mu:Mut (H x))(he:e=x∨H e=some (.own x))(k:∀b u,b≠e->s.heap.get? b=some u->h'.get? b=some u)(heo:∃u,h'.get? e=some u)
  (new:ObjOk X.prog X.w (upd H x o) h' x o):Inv X pins σ (upd H x o) { s with heap:=h',toks:=t' }:=I.un (Un.write mu he k heo) (I.hok.write mu he k heo new)
theorem Inv.weak(I:Inv X pins σ H s)(hl:σ'.length=σ.length)(w:∀(i:Nat) v,σ'[i]?=some (some v)->σ[i]?=some (some v)):Inv X pins σ' H s:=
 ⟨I.ok,I.os,I.bare,I.base,let ⟨m,hn,hl'⟩:=I.loc;⟨m,hn,fun i x v e1 e2 e3=>hl' i x v e1 (w i v e2) e3⟩,I.cell,I.free,I.freeC,I.pin,I.hok,hl.trans I.len⟩
theorem Inv.pins_of(I:Inv X pins σ H s)(h:∀p∈pins',s.heap.get? p.1=some p.2∧H p.1=none∧p.1≠X.env.locals∧p.1∉X.fs∧∀v,p.2.data≠.cell v):Inv X pins' σ H s:=
 ⟨I.ok,I.os,I.bare,I.base,I.loc,I.cell,I.free,I.freeC,fun p hp=>(List.mem_append.mp hp).elim (fun z=>I.pin p (List.mem_append_left _ z)) (h p),I.hok,I.len⟩
theorem nodup_ix{N:List Str}(hN:N.Nodup){i j:Nat}(a:N[i]?=some x)(b:N[j]?=some x):i=j:=by
 obtain⟨h1,e1⟩:=List.getElem?_eq_some_iff.mp a
 obtain⟨h2,e2⟩:=List.getElem?_eq_some_iff.mp b
 exact (List.getElem_inj hN).mp (e1.trans e2.symm)
theorem store_ok2 {E:Value->Shared->Prop}{i:Nat}{Q:Unit->Shared->Prop} (I:Inv X pins σ H s) (hN:X.N.Nodup) (hi:X.N[i]?=some x) (hx:Loc X.env.scope x) (r:RelV v u)
  (h:∀s',Inv X pins (σ.set i (some v)) H s'->(∃a,Heap.SameBut a s.heap s'.heap∧(a=X.env.locals∨X.env.cells.lookup x=some a))->Q () s') (hf:X.fn x=true∨X.env.scope.names.lookup x=some .local:=by first | exact .inl rfl | exact .inr rfl | assumption):wpAny M A (storeName X.env x u) Q E s:=by
 obtain⟨m,hn,hl⟩:=id I.loc
 have hcls:(X.env.scope.kind==.class || (X.env.scope.kind==.module&&X.env.locals != X.env.globals))=false:=by rw[I.ok.kind];rfl
 have hiσ:i<σ.length:=by rw[I.len];exact (List.getElem?_eq_some_iff.mp hi).1
 have cne:=I.cne
 have tracked:∀{a:Addr}{h':Heap},(∃o,s.heap.get? a=some o∧H a=none)->Heap.SameBut a s.heap h'->HOk X.prog X.w H h':=fun {a h'} ha hs b ob e=>by
  obtain⟨_,_,hfree⟩:=ha
  refine (I.hok b ob e).stay (fun c w' hc q=>(hs.2 c ?_).trans q) (fun _ q=>q) fun _ _ q=>q
  rintro rfl
  rcases hc with rfl | hc
  ·rw[hfree] at e;cases e
  ·rw[hfree] at hc;cases hc
 rcases hx with hk | hk
 ·refine wpAny_storeName_local hk hn (fun h' hn' hs=>?_) hcls
  obtain⟨oL,_,_,hoL,_⟩:=id hn
  refine h _ ⟨I.ok,I.os,I.bare,⟨fun b o e n hb hx=>?_,fun b o e n hb hx=>?_,I.base.free,fun b o e hx=>?_,I.base.tups,I.base.frzs,I.base.tbls⟩,⟨_,hn',fun j y v' e1 e2 e3=>?_⟩,fun y c e=>?_,I.free,I.freeC,fun p hp=>?_,tracked ⟨oL,hoL,I.free⟩ hs,by simpa using I.len⟩ ⟨_,hs,.inl rfl⟩
  ·exact (hs.2 b (Nat.ne_of_lt (Nat.lt_of_lt_of_le (Heap.lt_size e) I.ok.above))).trans (I.base.keep b o e n hb hx)
  ·obtain⟨sl,e1⟩:=I.base.slot b o e n hb hx
   exact⟨sl,(hs.2 b (Nat.ne_of_lt (Nat.lt_of_lt_of_le (Heap.lt_size e) I.ok.above))).trans e1⟩
  ·obtain⟨o',e1⟩:=I.base.there b o e hx
   exact⟨o',(hs.2 b (Nat.ne_of_lt (Nat.lt_of_lt_of_le (Heap.lt_size e) I.ok.above))).trans e1⟩
  ·by_cases hj:j=i
   ·subst hj
    rw[hi] at e1;cases e1
    rw[List.getElem?_set_self hiσ] at e2
    cases e2
    exact⟨u,r,.inl ⟨hk,by simp⟩⟩
   ·rw[List.getElem?_set_ne (Ne.symm hj)] at e2
    obtain⟨u',r',q⟩:=hl j y v' e1 e2 e3
    refine⟨u',r',?_⟩
    rcases q with ⟨k,e⟩ | ⟨k,c,e,z⟩
    ·refine .inl ⟨k,?_⟩
     have:y≠x:=fun e=>hj (nodup_ix hN e1 (e ▸ hi))
     simp[this,e]
    ·exact .inr ⟨k,c,e,z.sameBut hs (cne y c e)⟩
  ·obtain⟨w',z⟩:=I.cell y c e
   exact⟨w',z.sameBut hs (cne y c e)⟩
  ·obtain⟨e,n,ne,nf,d⟩:=I.pin p hp
   exact⟨(hs.2 p.1 ne).trans e,n,ne,nf,d⟩
 ·have hfn:X.fn x=true:=by
   rcases hf with z | z
   ·exact z
   ·rw[z] at hk;cases hk
  obtain⟨c,hc⟩:=I.ok.has x (.inl hk)
  obtain⟨w',z⟩:=I.cell x c hc
  refine wpAny_storeName_cell I.ok.kind hk hc z (fun h' hc' hs=>?_)
  obtain⟨oc,hoc,hocd⟩:=id z
  refine h { s with heap:=h' } ⟨I.ok,I.os,I.bare,⟨fun b o e n hb hx=>?_,fun b o e n hb hx=>?_,I.base.free,fun b o e hx=>?_,I.base.tups,I.base.frzs,I.base.tbls⟩,⟨m,hn.sameBut hs (Ne.symm (cne x c hc)),fun j y v' e1 e2 e3=>?_⟩,fun y c' e=>?_,I.free,I.freeC,fun p hp=>?_,tracked ⟨oc,hoc,I.freeC x c hc⟩ hs,by simpa using I.len⟩ ⟨c,hs,.inr hc⟩
  ·exact (hs.2 b (Nat.ne_of_lt (Nat.lt_of_lt_of_le (Heap.lt_size e) (I.ok.cab x c hfn hc)))).trans (I.base.keep b o e n hb hx)
  ·obtain⟨sl,e1⟩:=I.base.slot b o e n hb hx
   exact⟨sl,(hs.2 b (Nat.ne_of_lt (Nat.lt_of_lt_of_le (Heap.lt_size e) (I.ok.cab x c hfn hc)))).trans e1⟩
  ·obtain⟨o',e1⟩:=I.base.there b o e hx
   exact⟨o',(hs.2 b (Nat.ne_of_lt (Nat.lt_of_lt_of_le (Heap.lt_size e) (I.ok.cab x c hfn hc)))).trans e1⟩
  ·by_cases hj:j=i
   ·subst hj
    rw[hi] at e1;cases e1
    rw[List.getElem?_set_self hiσ] at e2
    cases e2
    exact⟨u,r,.inr ⟨.inl hk,c,hc,hc'⟩⟩
   ·rw[List.getElem?_set_ne (Ne.symm hj)] at e2
    obtain⟨u',r',q⟩:=hl j y v' e1 e2 e3
    refine⟨u',r',?_⟩
    rcases q with q | ⟨k,c',e,z'⟩
    ·exact .inl q
    ·refine .inr ⟨k,c',e,z'.sameBut hs ?_⟩
     rintro rfl
     exact hj (nodup_ix hN e1 (I.ok.inj _ _ _ e hc ▸ hi))
  ·by_cases hcc:c'=c
   ·subst hcc;exact⟨_,hc'⟩
   ·obtain⟨w2,z2⟩:=I.cell y c' e
    exact⟨w2,z2.sameBut hs hcc⟩
  ·obtain⟨e,n,ne,nf,d⟩:=I.pin p hp
   refine⟨(hs.2 p.1 ?_).trans e,n,ne,nf,d⟩
   intro q
   rw[q,hoc] at e
   have q':oc=p.2:=Option.some.inj e
   exact d w' (by rw[←q'];exact hocd)
theorem store_ok(I:Inv X pins σ H s)(hN:X.N.Nodup)(hi:X.N[i]?=some x)(hx:Loc X.env.scope x)(r:RelV v u)
  (h:∀s',Inv X pins (σ.set i (some v)) H s'->Q () s') (hf:X.fn x=true∨X.env.scope.names.lookup x=some .local:=by first | exact .inl rfl | exact .inr rfl | assumption):wpAny M A (storeName X.env x u) Q E s:=
 store_ok2 I hN hi hx r (fun s' I' _=>h s' I') hf
theorem Inv.call'(I:Inv X pins σ H s)(ho:s'.os=s.os)(u:Un (frs X.stack) ch H H' s.heap s'.heap)(hok:HOk X.prog X.w H' s'.heap)(hg:AllBare s'.gens)
  (hch:∀b∈ch,(b∈X.ex∨X.s₀.heap.objs.size≤b)∧b≠X.env.locals∧(∀x c,X.env.cells.lookup x=some c->c≠b)∧∀p∈X.pn++pins,p.1≠b):Inv X pins σ H' s':=by
 obtain⟨h',g',d',t',o'⟩:=s'
 have e:o'=s.os:=ho
 subst e
 exact I.call (g':=g') (t':=t') (d':=d') u hok hg hch
end
abbrev XK:=Value->Option Addr->Hp->Prop
abbrev St:=List (Option V)
abbrev VK:=V->Hp->Prop
abbrev TE:=St->Hp->VK->Prop
abbrev TT:=St->Hp->(Bool->Hp->Prop)->Prop
abbrev TA:=St->Hp->(List V->Hp->Prop)->Prop
structure Ends where
 nx:St->Hp->Prop
 rt:VK
 bk:St->Hp->Prop:=fun _ _=>False
 ct:St->Hp->Prop:=fun _ _=>False
abbrev TS:=Ends->St->Hp->Prop
def EP(X:Cx)(pins:List (Addr×Obj))(σ:St)(Q:VK)(u:Value)(s':Shared):Prop:=∃v H',Inv X pins σ H' s'∧RelV v u∧Q v H'
def TP(X:Cx)(pins:List (Addr×Obj))(σ:St)(Q:Bool->Hp->Prop)(b:Bool)(s':Shared):Prop:=∃H',Inv X pins σ H' s'∧Q b H'
def AP(X:Cx)(pins:List (Addr×Obj))(σ:St)(Q:List V->Hp->Prop)(us:List Value)(s':Shared):Prop:=∃vs H',Inv X pins σ H' s'∧Vals vs us∧Q vs H'
def SP(X:Cx)(pins:List (Addr×Obj))(D:Ends)(f:Flow)(s':Shared):Prop:=
 match f with
 |.next=>∃σ' H',Inv X pins σ' H' s'∧D.nx σ' H'
 |.brk=>∃σ' H',Inv X pins σ' H' s'∧D.bk σ' H'
 |.cont=>∃σ' H',Inv X pins σ' H' s'∧D.ct σ' H'
 |.ret u=>∃v σ' H',Inv X pins σ' H' s'∧RelV v u∧D.rt v H'
def PE(X:Cx)(e:Expr)(t:TE):Prop:=
 ∀(pins:List (Addr×Obj)) (s:Shared) (σ:St) (H:Hp) (Q:VK),Inv X pins σ H s->t σ H Q->wpAny (model X.prog X.w) X.A (eval e X.env) (EP X pins σ Q) X.xe s
def PT(X:Cx)(e:Expr)(t:TT):Prop:=
 ∀(pins:List (Addr×Obj)) (s:Shared) (σ:St) (H:Hp) (Q:Bool->Hp->Prop),Inv X pins σ H s->t σ H Q->wpAny (model X.prog X.w) X.A (isTrue e X.env (eval e X.env)) (TP X pins σ Q) X.xe s
def PW(X:Cx)(e:Expr)(t:TT):Prop:=
 ∀(whole:Sem Value) (pins:List (Addr×Obj)) (s:Shared) (σ:St) (H:Hp) (Q:Bool->Hp->Prop),Inv X pins σ H s->t σ H Q->wpAny (model X.prog X.w) X.A (isTrue e X.env whole) (TP X pins σ Q) X.xe s
theorem PW.pt(h:PW X e t):PT X e t:=h _
def PA(X:Cx)(es:List Expr)(t:TA):Prop:=
 ∀(pos:Pos) (pins:List (Addr×Obj)) (s:Shared) (σ:St) (H:Hp) (Q:List V->Hp->Prop),Inv X pins σ H s->t σ H Q->wpAny (model X.prog X.w) X.A (spliced (backTo pos (starEach es X.env))) (AP X pins σ Q) X.xe s
def PS(X:Cx)(st:Stmt)(t:TS):Prop:=
 ∀(pins:List (Addr×Obj)) (s:Shared) (σ:St) (H:Hp) (D:Ends),Inv X pins σ H s->t D σ H->wpAny (model X.prog X.w) X.A (exec st X.env) (SP X pins D) X.xe s
def PSs(X:Cx)(st:List Stmt)(t:TS):Prop:=
 ∀(pins:List (Addr×Obj)) (s:Shared) (σ:St) (H:Hp) (D:Ends),Inv X pins σ H s->t D σ H->wpAny (model X.prog X.w) X.A (execs st X.env) (SP X pins D) X.xe s
theorem thn(h:wpAny M A t Q E s)(hQ:∀a s,Q a s->Q' a s):wpAny M A t Q' E s:=wpAny_mono h hQ fun _ _ x=>x
open PySem PySem.Spec PyProof.Rows
section
variable{X:Cx}
theorem bin(ha:PE X a ta)(hb:PE X b tb){pins:List (Addr×Obj)}{R:V->V->Hp->Prop}(I:Inv X pins σ H s)(h:ta σ H fun x H1=>tb σ H1 fun y H2=>R x y H2)
  {α:Type}{Q:α->Shared->Prop}{f:Value->Value->Sem α}
  (hf:∀v u s2 x y H2,Inv X pins σ H2 s2->RelV x v->RelV y u->R x y H2->wpAny (model X.prog X.w) X.A (f v u) Q X.xe s2) :
  wpAny (model X.prog X.w) X.A (eval a X.env) (fun v s₁=>wpAny (model X.prog X.w) X.A (eval b X.env) (fun u s₂=>wpAny (model X.prog X.w) X.A (f v u) Q X.xe s₂) X.xe s₁) X.xe s:=by
 refine thn (ha pins s σ H _ I h) fun v s1 ⟨x,H1,I1,r1,q1⟩=>?_
 refine thn (hb pins s1 σ H1 _ I1 q1) fun u s2 ⟨y,H2,I2,r2,q2⟩=>?_
 exact hf v u s2 x y H2 I2 r1 r2 q2
def tVar(i:Nat):TE:=fun σ H Q=>∃v,σ[i]?=some (some v)∧Q v H
def tC(v:V):TE:=fun _ H Q=>Q v H
theorem pe_var(hN:X.N[i]?=some x)(hv:Vis X.env.scope x)(hd:(x==("__debug__":Str))=false:=by decide)(hcd:(x==("__classdict__":Str))=false:=by decide):PE X (.Name x pos) (tVar i):=by
 intro pins s σ H Q I h
 obtain⟨v,e,h⟩:=h
 obtain⟨m,hn,hl⟩:=I.loc
 obtain⟨u,r,l⟩:=hl i x v hN e hv
 have fin:EP X pins σ Q u s:=⟨v,H,I,r,h⟩
 rcases l with ⟨hk,hm⟩ | ⟨hk,c,hc,hcell⟩
 ·exact wpAny_Name (wpAny_loadName_local I.ok.kind hk hn hm fin) hd
 ·rcases hk with hk | hk
  ·exact wpAny_Name (wpAny_loadName_cell I.ok.kind hk hc hcell fin) hd
  ·exact wpAny_Name (wpAny_loadName_free I.ok.kind hk hc hcell fin hcd) hd
theorem pe_int{i j pos}:PE X (.Constant (.int i) j pos) (tC (.int i)):=fun _ _ _ H _ I h=>wpAny_Constant_int ⟨.int i,H,I.tok _,⟨_,rfl⟩,h⟩
theorem pe_bl{b j pos}:PE X (.Constant (.bool b) j pos) (tC (.bl b)):=fun _ _ _ H _ I h=>Constant_bool ⟨.bl b,H,I,rfl,h⟩
theorem pe_non{j pos}:PE X (.Constant .none j pos) (tC .non):=fun _ _ _ H _ I h=>Constant_none ⟨.non,H,I,rfl,h⟩
theorem pe_str{x j pos}:PE X (.Constant (.str x) j pos) (tC (.str x)):=fun _ _ _ H _ I h=>Calls.Constant_str ⟨.str x,H,I.tok _,⟨_,rfl⟩,h⟩
def Gl(X:Cx)(x:Str):Prop:=X.env.kindOf x=some .globalImplicit
theorem ld_glob(I:Inv X pins σ H s)(hg:Gl X x)(hm:X.mg x=some u)(h:Q u s)
  (hd:(x==("__debug__":Str))=false:=by decide):wpAny (model X.prog X.w) X.A (eval (.Name x pos) X.env) Q E s:=
 Calls.Name_function_global I.ok.kind hg (Calls.loadGlobal_global (by rw[I.ok.glob];exact I.mod.glob.keeps I.bk) hm h) hd
theorem ld_blt(I:Inv X pins σ H s)(hg:Gl X x)(hm:X.mg x=none)(hv:bootBuiltins x=some u)(h:Q u s)
  (hn:x≠"__name__":=by decide) (hd:(x==("__debug__":Str))=false:=by decide):wpAny (model X.prog X.w) X.A (eval (.Name x pos) X.env) Q E s:=by
 obtain⟨mb,h1,h2⟩:=I.mod.blt
 exact Calls.Name_function_global I.ok.kind hg (Calls.loadGlobal_builtin (by rw[I.ok.glob];exact I.mod.glob.keeps I.bk) hm (by rw[I.ok.blt];exact h1.keeps I.bk) ((h2 x hn).trans hv) h) hd
theorem pe_glob(hg:Gl X x)(hm:X.mg x=some u)(r:RelV v u)(hd:(x==("__debug__":Str))=false:=by decide):PE X (.Name x pos) (tC v):=
 fun _ _ _ H _ I h=>ld_glob I hg hm ⟨v,H,I,r,h⟩ hd
theorem pe_bltn(hg:Gl X x)(hm:X.mg x=none)(hv:bootBuiltins x=some u)(r:RelV v u)(hn:x≠"__name__":=by decide)(hd:(x==("__debug__":Str))=false:=by decide):PE X (.Name x pos) (tC v):=
 fun _ _ _ H _ I h=>ld_blt I hg hm hv ⟨v,H,I,r,h⟩ hn hd
variable{a b:Expr}{ta tb:TE}{pos:Pos}
variable{tA tB':TT}{rest:List Expr}
def tAnd(t u:TT):TT:=fun σ H Q=>t σ H fun c H1=>if c=true then u σ H1 Q else Q false H1
def tOr(t u:TT):TT:=fun σ H Q=>t σ H fun c H1=>if c=true then Q true H1 else u σ H1 Q
def tNot(t:TT):TT:=fun σ H Q=>t σ H fun c H1=>Q (!c) H1
theorem pw_and1(ha:PT X a tA):PW X (.BoolOp .And [a] pos) tA:=by
 intro wh pins s σ H Q I h
 refine isTrue_and (thn (ha pins s σ H Q I h) fun c s1 e=>?_)
 cases c with
 |true=>exact isTrue_and_nil e
 |false=>exact e
theorem pw_or1(ha:PT X a tA):PW X (.BoolOp .Or [a] pos) tA:=by
 intro wh pins s σ H Q I h
 refine isTrue_or (thn (ha pins s σ H Q I h) fun c s1 e=>?_)
 cases c with
 |false=>exact isTrue_or_nil e
 |true=>exact e
theorem pw_and(ha:PT X a tA)(hb:PW X (.BoolOp .And (b::rest) pos) tB'):PW X (.BoolOp .And (a::b::rest) pos) (tAnd tA tB'):=by
 intro wh pins s σ H Q I h
 refine isTrue_and (thn (ha pins s σ H _ I h) fun c s1 ⟨H1,I1,q1⟩=>?_)
 cases c with
 |true=>exact hb wh pins s1 σ H1 Q I1 q1
 |false=>exact⟨H1,I1,q1⟩
theorem pw_or(ha:PT X a tA)(hb:PW X (.BoolOp .Or (b::rest) pos) tB'):PW X (.BoolOp .Or (a::b::rest) pos) (tOr tA tB'):=by
 intro wh pins s σ H Q I h
 refine isTrue_or (thn (ha pins s σ H _ I h) fun c s1 ⟨H1,I1,q1⟩=>?_)
 cases c with
 |true=>exact⟨H1,I1,q1⟩
 |false=>exact hb wh pins s1 σ H1 Q I1 q1
theorem pt_not(ha:PT X a tA):PT X (.UnaryOp .Not a pos) (tNot tA):=by
 intro pins s σ H Q I h
 exact isTrue_not (ha pins s σ H (fun c H1=>Q (!c) H1) I h)
def tAndV(ta tb:TE):TE:=fun σ H Q=>ta σ H fun x H1=>∃c,x=.bl c∧if c=true then tb σ H1 Q else Q (.bl false) H1
def tNotV(ta:TE):TE:=fun σ H Q=>ta σ H fun x H1=>∃c,x=.bl c∧Q (.bl (!c)) H1
theorem pe_one{op}(h:PE X a t):PE X (.BoolOp op [a] pos) t:=fun pins s σ H Q I hw=>BoolOp_one (h pins s σ H Q I hw)
theorem pe_and(ha:PE X a ta)(hb:PE X (.BoolOp .And (b::rest) pos) tb):PE X (.BoolOp .And (a::b::rest) pos) (tAndV ta tb):=by
 intro pins s σ H Q I h
 refine BoolOp_and (thn (ha pins s σ H _ I h) fun v s1 ⟨x,H1,I1,r1,q1⟩=>?_)
 obtain⟨c,rfl,q1⟩:=q1
 cases r1
 refine wpAny_truthy_bool ?_
 cases c with
 |true=>exact hb pins s1 σ H1 Q I1 q1
 |false=>exact⟨.bl false,H1,I1,rfl,q1⟩
theorem pe_not(ha:PE X a ta):PE X (.UnaryOp .Not a pos) (tNotV ta):=by
 intro pins s σ H Q I h
 refine UnaryOp_ (thn (ha pins s σ H _ I h) fun v s1 ⟨x,H1,I1,r1,q1⟩=>?_)
 obtain⟨c,rfl,q1⟩:=q1
 cases r1
 exact not_of (wpAny_truthy_bool ⟨.bl (!c),H1,I1,rfl,q1⟩)
def tIf(t:TT)(ta tb:TE):TE:=fun σ H Q=>t σ H fun c H1=>if c=true then ta σ H1 Q else tb σ H1 Q
theorem pe_ifExp(hc:PT X c tA)(ha:PE X a ta)(hb:PE X b tb):PE X (.IfExp c a b pos) (tIf tA ta tb):=by
 intro pins s σ H Q I h
 refine wpAny_IfExp (thn (hc pins s σ H _ I h) fun d s1 ⟨H1,I1,q1⟩=>?_)
 cases d with
 |true=>exact ha pins s1 σ H1 Q I1 q1
 |false=>exact hb pins s1 σ H1 Q I1 q1
end
open PySem PySem.Spec PyProof.Rows
def SqL(K:PySem.W.Frag)(H:Hp)(a:Addr)(xs:List V):Prop:=
 Rd H a (.lst xs) ∨
  ∃(o:Obj) (its:Array Value) (n:Nat),K.lookup a=some o∧o.cls=.type "list"∧o.dict=none∧o.data=.seq its n∧its.size≤sizeLine∧Vals xs its.toList
def SqT(K:PySem.W.Frag)(H:Hp)(a:Addr)(xs:List V):Prop:=
 Rd H a (.tup xs) ∨
  ∃(o:Obj) (its:Array Value) (n:Nat),K.lookup a=some o∧o.cls=.type "tuple"∧o.data=.seq its n∧its.size≤sizeLine∧Vals xs its.toList
def absV:Value->Option V
 |.none=>some .non
 |.bool b=>some (.bl b)
 |.int i _=>some (.int i)
 |.str x _=>some (.str x)
 |.bytes b _=>some (.byt b)
 |.float b _=>some (.flt b)
 |.ref a=>some (.ref a)
 |.type n=>some (.ty n)
 |_=>none
theorem RelV.abs(r:RelV x u):absV u=some x:=by
 cases x with
 |non=>cases r;rfl
 |bl _=>cases r;rfl
 |int _=>obtain⟨t,rfl⟩:=r;rfl
 |str _=>obtain⟨t,rfl⟩:=r;rfl
 |byt _=>obtain⟨t,rfl⟩:=r;rfl
 |flt _=>obtain⟨t,rfl⟩:=r;rfl
 |ref _=>cases r;rfl
 |ty _=>cases r;rfl
theorem RelV.inj(r:RelV x u)(q:RelV y u):x=y:=Option.some.inj (r.abs.symm.trans q.abs)
theorem Vals.inj:∀{xs ys:List V}{us:List Value},Vals xs us->Vals ys us->xs=ys
 |_,_,_,.nil,.nil=>rfl
 |_,_,_,.cons r t,.cons r' t'=>by rw[r.inj r',Vals.inj t t']
section
variable{X:Cx}{pins:List (Addr×Obj)}{σ:St}{H:Hp}{s:Shared}{a:Addr}{xs ys:List V}
theorem SqL.of{K:PySem.W.Frag}(h:H a=some (.lst xs)):SqL K H a xs:=.inl (.inl h)
theorem SqT.of{K:PySem.W.Frag}(h:H a=some (.tup xs)):SqT K H a xs:=.inl (.inl h)
theorem Inv.list(I:Inv X pins σ H s)(h:SqL X.K H a xs):∃its:List Value,Vals xs its∧PlainL s.heap a its.toArray∧xs.length≤sizeLine:=by
 rcases h with h | ⟨o,its,n,hk,hc,hd,hs,hz,r⟩
 ·obtain⟨z,its,n,r,e⟩:=h.ok I.hok
  exact⟨its,r,⟨_,n,e,rfl,rfl,rfl⟩,z⟩
 ·refine⟨its.toList,r,⟨o,n,I.kIn a o hk,hc,hd,by simpa using hs⟩,?_⟩
  have e:=r.length
  simp only[Array.length_toList] at e
  lia
theorem Inv.tuple(I:Inv X pins σ H s)(h:SqT X.K H a xs):∃its:List Value,Vals xs its∧IsTup s.heap a its.toArray∧xs.length≤sizeLine:=by
 rcases h with h | ⟨o,its,n,hk,hc,hs,hz,r⟩
 ·obtain⟨z,its,r,p⟩:=h.ok I.hok
  exact⟨its,r,p,z⟩
 ·refine⟨its.toList,r,⟨o,I.kIn a o hk,hc,n,by simpa using hs⟩,?_⟩
  have e:=r.length
  simp only[Array.length_toList] at e
  lia
theorem Inv.list_inj(I:Inv X pins σ H s)(h:SqL X.K H a xs)(h':SqL X.K H a ys):xs=ys:=by
 obtain⟨its,r,⟨o,n,e,_,_,d⟩,_⟩:=I.list h
 obtain⟨its',r',⟨o',n',e',_,_,d'⟩,_⟩:=I.list h'
 rw[e] at e';cases e'
 rw[d] at d'
 injection d' with d1 _
 have:its=its':=by simpa using congrArg Array.toList d1
 subst this
 exact r.inj r'
theorem Inv.tuple_inj(I:Inv X pins σ H s)(h:SqT X.K H a xs)(h':SqT X.K H a ys):xs=ys:=by
 obtain⟨its,r,⟨o,e,_,n,d⟩,_⟩:=I.tuple h
 obtain⟨its',r',⟨o',e',_,n',d'⟩,_⟩:=I.tuple h'
 rw[e] at e';cases e'
 rw[d] at d'
 injection d' with d1 _
 have:its=its':=by simpa using congrArg Array.toList d1
 subst this
 exact r.inj r'
end
section
variable{X:Cx}{st:Stmt}{rest:List Stmt}{t u:TS}{e:Expr}{te:TE}{pos:Pos}
def tNext:TS:=fun D σ H=>D.nx σ H
def tSeq(t u:TS):TS:=fun D σ H=>t { D with nx:=u D } σ H
theorem pss_nil:PSs X [] tNext:=fun _ _ σ H _ I h=>wpAny_execs_nil ⟨σ,H,I,h⟩
theorem pss_cons (h1:PS X st t) (h2:PSs X rest u):PSs X (st::rest) (tSeq t u):=by
 intro pins s σ H D I h
 refine wpAny_execs_cons (thn (h1 pins s σ H { D with nx:=u D } I h) fun f s1 q=>?_)
 cases f with
 |next=>
   obtain⟨σ',H',I',q⟩:=q
   exact h2 pins s1 σ' H' D I' q
 |ret v=>exact q
 |brk=>exact q
 |cont=>exact q
theorem pss_one(h1:PS X st t):PSs X [st] t:=by
 intro pins s σ H D I h
 refine wpAny_execs_cons (thn (h1 pins s σ H D I h) fun f s1 q=>?_)
 cases f with
 |next=>exact wpAny_execs_nil q
 |ret v=>exact q
 |brk=>exact q
 |cont=>exact q
theorem Inv.quiet(I:Inv X pins σ H s):interactive X.env=false:=by simp[interactive,I.ok.kind]
def tDrop(te:TE):TS:=fun D σ H=>te σ H fun _ H1=>D.nx σ H1
theorem ps_expr(he:PE X e te)(hs:swapsWith e none pos.line X.env=pure false:=by rfl):PS X (.Expr e pos) (tDrop te):=by
 intro pins s σ H D I h
 exact wpAny_Expr_any (thn (he pins s σ H _ I h) fun v s1 ⟨x,H1,I1,r1,q1⟩=>⟨σ,H1,I1,q1⟩) I.quiet hs
def tRet(te:TE):TS:=fun D σ H=>te σ H D.rt
theorem ps_ret(he:PE X e te):PS X (.Return (some e) pos) (tRet te):=by
 intro pins s σ H D I h
 exact wpAny_Return_some (thn (he pins s σ H _ I h) fun v s1 ⟨x,H1,I1,r1,q1⟩=>⟨x,σ,H1,I1,r1,q1⟩)
def tIfS(c:TT)(t u:TS):TS:=fun D σ H=>c σ H fun b H1=>if b=true then t D σ H1 else u D σ H1
theorem ps_if(hc:PT X c tc)(ha:PSs X a t)(hb:PSs X b u):PS X (.If c a b pos) (tIfS tc t u):=by
 intro pins s σ H D I h
 refine wpAny_If (thn (hc pins s σ H _ I h) fun d s1 ⟨H1,I1,q1⟩=>?_)
 cases d with
 |true=>exact ha pins s1 σ H1 D I1 q1
 |false=>exact hb pins s1 σ H1 D I1 q1
end
abbrev TG:=V->St->Hp->(St->Hp->Prop)->Prop
abbrev TGs:=List V->St->Hp->(St->Hp->Prop)->Prop
def PG (X:Cx) (target:Expr) (t:TG):Prop:=
 ∀(pins:List (Addr×Obj)) (s:Shared) (σ:St) (H:Hp) (v:V) (u:Value) (Q:St->Hp->Prop),Inv X pins σ H s->RelV v u->t v σ H Q->
   wpAny (model X.prog X.w) X.A (assign target X.env u) (fun _ s'=>∃σ' H',Inv X pins σ' H' s'∧Q σ' H') X.xe s
def PGs (X:Cx) (ts:List Expr) (t:TGs):Prop:=
 ∀(pins:List (Addr×Obj)) (s:Shared) (σ:St) (H:Hp) (vs:List V) (us:List Value) (Q:St->Hp->Prop),Inv X pins σ H s->Vals vs us->t vs σ H Q->
   wpAny (model X.prog X.w) X.A (assignInOrder ((assignEach ts X.env).map (·.2)) us) (fun _ s'=>∃σ' H',Inv X pins σ' H' s'∧Q σ' H') X.xe s
abbrev TSet:=V->V->V->Hp->(Hp->Prop)->Prop
def PSet (X:Cx) (t:TSet):Prop:=
 ∀(pins:List (Addr×Obj)) (s:Shared) (σ:St) (H:Hp) (o i v:V) (ov iv u:Value) (Q:Hp->Prop),Inv X pins σ H s->RelV o ov->RelV i iv->RelV v u->t o i v H Q->
   wpAny (model X.prog X.w) X.A (setItem ov iv u) (fun _ s'=>∃H',Inv X pins σ H' s'∧Q H') X.xe s
abbrev TIp:=V->V->Hp->VK->Prop
def PIp (X:Cx) (op:Operator) (t:TIp):Prop:=
 ∀(pins:List (Addr×Obj)) (s:Shared) (σ:St) (H:Hp) (x y:V) (v u:Value) (Q:VK),Inv X pins σ H s->RelV x v->RelV y u->t x y H Q->
   wpAny (model X.prog X.w) X.A (inplaceOp op v u) (EP X pins σ Q) X.xe s
section
variable{X:Cx}{pos:Pos}
def gName(i:Nat):TG:=fun v σ H Q=>Q (σ.set i (some v)) H
theorem pg_name(hN:X.N.Nodup)(hi:X.N[i]?=some x)(hx:Loc X.env.scope x)(hf:X.fn x=true∨X.env.scope.names.lookup x=some .local:=by first | exact .inl rfl | exact .inr rfl | assumption):PG X (.Name x pos) (gName i):=by
 intro pins s σ H v u Q I r h
 exact wpAny_assign_Name (store_ok I hN hi hx r (fun s' I'=>⟨_,H,I',h⟩) hf)
def gNil:TGs:=fun vs σ H Q=>vs=[]∧Q σ H
def gCons(t:TG)(u:TGs):TGs:=fun vs σ H Q=>∃v r,vs=v::r∧t v σ H fun σ' H'=>u r σ' H' Q
theorem pgs_nil:PGs X [] gNil:=by
 intro pins s σ H vs us Q I r h
 obtain⟨e,h⟩:=h
 subst e
 cases r
 exact assignInOrder_nil ⟨σ,H,I,h⟩
theorem pgs_cons (h1:PG X e t) (h2:PGs X es u)
  (hs:(assignEach (e::es) X.env).map (·.2)=assign e X.env::(assignEach es X.env).map (·.2):=by rfl):PGs X (e::es) (gCons t u):=by
 intro pins s σ H vs us Q I r h
 obtain⟨v,vr,e1,h⟩:=h
 subst e1
 cases r with
 |cons r rr=>
   rw[hs]
   refine assignInOrder_cons (thn (h1 pins s σ H _ _ _ I r h) fun _ s1 ⟨σ1,H1,I1,q1⟩=>?_)
   exact h2 pins s1 σ1 H1 _ _ Q I1 rr q1
def gTup(K:PySem.W.Frag)(n:Nat)(t:TGs):TG:=fun v σ H Q=>∃a xs,v=.ref a∧SqT K H a xs∧xs.length=n∧t xs σ H Q
theorem pg_tup(hc:X.calm=true)(h:PGs X es t)
  (hn:(assignEach es X.env).length=n:=by rfl) (hst:(assignEach es X.env).findIdx? (·.1)=none:=by rfl):PG X (.Tuple es k pos) (gTup X.K n t):=by
 intro pins s σ H v u Q I r hw
 obtain⟨a,xs,e1,hq,hl,hw⟩:=hw
 subst e1
 cases r
 obtain⟨its,rv,ht,hz⟩:=I.tuple hq
 refine assign_Tuple_tuple (I.ok.hd hc) ht (by simp[hn,←hl,rv.length]) hst fun h' hx=>?_
 have I1:Inv X pins σ H { s with heap:=h' }:=I.kept (t':=s.toks) fun b o e=>hx b o (Nat.ne_of_lt (Heap.lt_size e)) e
 exact h pins _ σ H xs _ Q I1 (by simpa using rv) hw
def gSub(to ti:TE)(t:TSet):TG:=fun v σ H Q=>to σ H fun o H1=>ti σ H1 fun i H2=>t o i v H2 fun H3=>Q σ H3
theorem pg_sub (ho:PE X o to) (hi:PE X i ti) (hs:PSet X t)
  (ha:∀v,assign (.Subscript o i pos) X.env v=(do
    let ov ←holding [v] (eval o X.env)
    let iv ←holding [v,ov] (eval i X.env)
    standAt pos
    holding [v,ov,iv] (setItem ov iv v)
    release [v,ov,iv] []):=by intro _;rfl):PG X (.Subscript o i pos) (gSub to ti t):=by
 intro pins s σ H v u Q I r h
 rw[ha]
 refine wpAny_bind (wpAny_holding (thn (ho pins s σ H _ I h) fun ov s1 ⟨x,H1,I1,r1,q1⟩=>?_))
 refine wpAny_bind (wpAny_holding (thn (hi pins s1 σ H1 _ I1 q1) fun iv s2 ⟨y,H2,I2,r2,q2⟩=>?_))
 refine wpAny_bind (wpAny_standAt (wpAny_bind (wpAny_holding (thn (hs pins s2 σ H2 x y v ov iv u _ I2 r1 r2 r q2) fun _ s3 ⟨H3,I3,q3⟩=>?_))))
 exact wpAny_release ⟨σ,H3,I3,q3⟩
def tAsg(te:TE)(g:TG):TS:=fun D σ H=>te σ H fun x H1=>g x σ H1 D.nx
theorem ps_asg(he:PE X e te)(hg:PG X tg g)(hs:swapsWithSole [tg] e pos.line X.env=pure false:=by rfl)(hw:swappedStores [tg] e X.env=pure none:=by rfl)
  (h1:(assignEach [tg] X.env).map (·.2)=[assign tg X.env]:=by rfl):PS X (.Assign [tg] e pos) (tAsg te g):=by
 intro pins s σ H D I h
 refine wpAny_Assign_stores (thn (he pins s σ H _ I h) fun v s1 ⟨x,H1,I1,r1,q1⟩=>?_) hs hw
 rw[h1]
 exact thn (hg pins s1 σ H1 x v _ I1 r1 q1) fun _ s2 q=>q
theorem ps_set(hN:X.N.Nodup)(hi:X.N[i]?=some x)(hx:Loc X.env.scope x)(he:PE X e te)(hs:swapsWith e (some (.Name x pos')) pos.line X.env=pure false:=by rfl)(hf:X.fn x=true∨X.env.scope.names.lookup x=some .local:=by first | exact .inl rfl | exact .inr rfl | assumption) :
  PS X (.Assign [.Name x pos'] e pos) (tAsg te (gName i)):=by
 intro pins s σ H D I h
 refine wpAny_Assign_Name (thn (he pins s σ H _ I h) fun v s1 ⟨y,H1,I1,r1,q1⟩=>?_) hs
 exact store_ok I1 hN hi hx r1 (fun s2 I2=>⟨_,H1,I2,q1⟩) hf
def tPar(i j:Nat)(ta:TA):TS:=fun D σ H=>ta σ H fun vs H1=>∃v w,vs=[v,w]∧D.nx ((σ.set i (some v)).set j (some w)) H1
theorem ps_par {kt k2 pt2} (hc:X.calm=true) (hN:X.N.Nodup) (hi:X.N[i]?=some x) (hj:X.N[j]?=some y) (hij:i≠j)
  (hx:X.env.scope.names.lookup x=some .local) (hy:X.env.scope.names.lookup y=some .local) (ha:PA X [a,b] ta)
  (hw:swappedStores [.Tuple [.Name x px,.Name y py] kt pt] (.Tuple [a,b] k2 pt2) X.env=pure (some [x,y]))
  (hs:swapsWithSole [.Tuple [.Name x px,.Name y py] kt pt] (.Tuple [a,b] k2 pt2) pos.line X.env=pure false:=by rfl) :
  PS X (.Assign [.Tuple [.Name x px,.Name y py] kt pt] (.Tuple [a,b] k2 pt2) pos) (tPar i j ta):=by
 intro pins s σ H D I h
 rw[exec_Assign_arm]
 refine wpAny_bind (wpAny_standAt ?_)
 rw[hs]
 refine wpAny_bind (wpAny_pure ?_)
 rw[if_neg (by decide)]
 refine wpAny_bind (Tuple_ (thn (ha _ pins s σ H _ I h) fun us s1 ⟨vs,H1,I1,r1,q1⟩=>?_))
 obtain⟨v,w,e1,q1⟩:=q1
 subst e1
 obtain ⟨u1,u2,rfl,rv,rw'⟩:∃ u1 u2,us=[u1,u2]∧RelV v u1∧RelV w u2:=by
  cases r1 with
  | cons p q=>
    cases q with
    |cons p' q'=>
      cases q'
      exact⟨_,_,rfl,p,p'⟩
 refine wpAny_newObj_type ?_ (by show 2≤sizeLine;decide)
 have I2:Inv X pins σ H1 { s1 with heap:=s1.heap.push { cls:=.type "tuple",data:=.seq [u1,u2].toArray } }:=I1.kept (t':=s1.toks) fun b o e=>Heap.get?_push_of_some _ e
 rw[hw]
 refine wpAny_bind (wpAny_pure ?_)
 show wpAny (model X.prog X.w) X.A (do rule "assign.swapped-stores";let items ←unpackItems (.ref s1.heap.objs.size) 2 none;assignInOrder [fun v=>bindName X.env y v,fun v=>bindName X.env x v] items.reverse;pure Flow.next) _ _ _
 refine wpAny_bind (wpAny_rule (wpAny_bind (unpackItems_tuple (items:=#[u1,u2]) (I.ok.hd hc) (IsTup.new s1.heap _) fun h' hx'=>?_)))
 have I3:=I2.kept (h':=h') (t':=s1.toks) fun b o e=>hx' b o (Nat.ne_of_lt (Heap.lt_size e)) e
 show wpAny _ _ (assignInOrder [fun v=>bindName X.env y v,fun v=>bindName X.env x v] [u2,u1]>>=fun _=>pure Flow.next) _ _ _
 refine wpAny_bind (assignInOrder_cons (wpAny_bindName (store_ok I3 hN hj (.inl hy) rw' (fun s2 I4=>?_) (.inr hy))))
 refine assignInOrder_cons (wpAny_bindName (store_ok I4 hN hi (.inl hx) rv (fun s3 I5=>assignInOrder_nil (wpAny_pure ?_)) (.inr hx)))
 rw[List.set_comm _ _ (Ne.symm hij)] at I5
 exact⟨_,H1,I5,q1⟩
def tAugS(to ti te:TE)(tget:V->V->Hp->VK->Prop)(tip:TIp)(tset:TSet):TS:=fun D σ H=>to σ H fun o H1=>ti σ H1 fun i H2=>tget o i H2 fun x H3=>te σ H3 fun y H4=>tip x y H4 fun z H5=>tset o i z H5 fun H6=>D.nx σ H6
def PGet (X:Cx) (t:V->V->Hp->VK->Prop):Prop:=
 ∀(pins:List (Addr×Obj)) (s:Shared) (σ:St) (H:Hp) (o i:V) (ov iv:Value) (Q:VK),Inv X pins σ H s->RelV o ov->RelV i iv->t o i H Q->
   wpAny (model X.prog X.w) X.A (getItem ov iv) (EP X pins σ Q) X.xe s
theorem ps_augS(ho:PE X o to)(hi:PE X i ti)(hg:PGet X tget)(he:PE X e te)(hp:PIp X op tip)(hs:PSet X tset)
  (ha:∀ov iv new,augStore i ov iv new=(do holding [new,ov,iv] (setItem ov iv new);release [new,ov,iv] [];pure .next):=by intros;rfl):PS X (.AugAssign (.Subscript o i tpos) op e pos) (tAugS to ti te tget tip tset):=by
 intro pins s σ H D I h
 refine wpAny_AugAssign_SubscriptAny (thn (ho pins s σ H _ I h) fun ov s1 ⟨x1,H1,I1,r1,q1⟩=>?_) ha
 refine thn (hi pins s1 σ H1 _ I1 q1) fun iv s2 ⟨x2,H2,I2,r2,q2⟩=>?_
 refine thn (hg pins s2 σ H2 x1 x2 ov iv _ I2 r1 r2 q2) fun old s3 ⟨x3,H3,I3,r3,q3⟩=>?_
 refine thn (he pins s3 σ H3 _ I3 q3) fun v s4 ⟨x4,H4,I4,r4,q4⟩=>?_
 refine thn (hp pins s4 σ H4 x3 x4 old v _ I4 r3 r4 q4) fun new s5 ⟨x5,H5,I5,r5,q5⟩=>?_
 exact thn (hs pins s5 σ H5 x1 x2 x5 ov iv new _ I5 r1 r2 r5 q5) fun _ s6 ⟨H6,I6,q6⟩=>⟨σ,H6,I6,q6⟩
end
section
variable{X:Cx}{pos:Pos}
def tWhile(c:TT)(tb:TS):TS:=fun D σ H=>∃W:Nat->St->Hp->Prop,(∃m,W m σ H)∧∀m σ H,W m σ H->
 c σ H fun b H1=>if b=true then ∃N:St->Hp->Prop,(∀σ' H',N σ' H'->∃m',m'<m∧W m' σ' H')∧tb { D with nx:=N,ct:=N,bk:=D.nx } σ H1 else D.nx σ H1
theorem ps_while (hp:PassesOwn (model X.prog X.w) X.A X.env X.xe) (hc:PT X c tc) (hb:PSs X body tb):PS X (.While c body [] pos) (tWhile tc tb):=by
 intro pins s σ H D I h
 obtain⟨W,⟨m0,w0⟩,turn⟩:=h
 refine wpAny_While (codeAny_whileLoop (fun n s'=>∃σ' H',Inv X pins σ' H' s'∧W n σ' H') ?_ m0 ⟨σ,H,I,w0⟩)
 rintro n s1 ⟨σ1,H1,I1,w1⟩
 refine wpAny_passesOwn hp (thn (hc pins s1 σ1 H1 _ I1 (turn n σ1 H1 w1)) fun b s2 ⟨H2,I2,q2⟩=>?_)
 cases b with
 | true=>
   obtain⟨N,hN,q2⟩:=q2
   rw[if_pos rfl]
   refine wpAny_passesOwn hp (thn (hb pins s2 σ1 H2 _ I2 q2) fun f s3 q3=>?_)
   cases f with
   |next=>
     obtain⟨σ3,H3,I3,n3⟩:=q3
     obtain⟨m',hm,w3⟩:=hN σ3 H3 n3
     exact⟨m',hm,σ3,H3,I3,w3⟩
   |cont=>
     obtain⟨σ3,H3,I3,n3⟩:=q3
     obtain⟨m',hm,w3⟩:=hN σ3 H3 n3
     exact⟨m',hm,σ3,H3,I3,w3⟩
   |brk=>exact q3
   |ret v=>exact q3
 |false=>
   rw[if_neg Bool.false_ne_true]
   exact wpAny_execs_nil ⟨σ1,H2,I2,q2⟩
end
structure It where
 go:Nat->Hp->Prop
 yld:Nat->Hp->V->Hp->Prop
 stop:Nat->Hp->Prop
def FpOk(X:Cx)(pins:List (Addr×Obj))(H:Hp)(b:Addr):Prop:=
 H b=none∧b≠X.env.locals∧b∉X.fs∧(b∈X.ex∨X.s₀.heap.objs.size≤b)∧(∀x c,X.env.cells.lookup x=some c->c≠b)∧∀p∈X.pn++pins,p.1≠b
theorem Inv.fpOk(I:Inv X pins σ H s)(hb:s.heap.objs.size≤b)(hn:H' b=none):FpOk X pins H' b:=by
 refine⟨hn,Nat.ne_of_gt (Nat.lt_of_lt_of_le I.lt hb),I.nofs hb,.inr (Nat.le_trans I.sz hb),fun x c e z=>?_,fun p hp z=>?_⟩
 ·obtain⟨v,q⟩:=I.cell x c e
  exact absurd (Nat.lt_of_lt_of_le q.lt (by rw[z];exact hb)) (Nat.lt_irrefl _)
 ·exact absurd (Nat.lt_of_lt_of_le (Heap.lt_size (I.pin p hp).1) (by rw[z];exact hb)) (Nat.lt_irrefl _)
structure Turn (P:Program) (w:World) (K:PySem.W.Frag) (tg:Expr) (J:It) (fp:List Addr) (it:Addr) (tn:Nat->Heap->Prop):Prop where
 mem:it∈fp
 obj:∀i h,tn i h->∀b∈fp,∃o,h.get? b=some o∧∀v,o.data≠.cell v
 keep:∀i h h',tn i h->(∀b∈fp,∀o,h.get? b=some o->h'.get? b=some o)->tn i h'
 item:∀(X:Cx),X.prog=P->X.w=w->X.K=K->X.calm=true->∀(i:Nat) (pins:List (Addr×Obj)) (s:Shared) (σ:St) (H:Hp) (E:Value->Shared->Prop),Inv X pins σ H s->(∀b∈fp,FpOk X pins H b)->tn i s.heap->J.go i H->
  wpAny (model P w) X.A (pyNext (.ref it)) (fun r s1=>∃u,r=some u ∧
   wpAny (model P w) X.A (letOwnedTupleGo tg (.ref it) u) (fun _ s2=>∃x H',Inv X pins σ H' s2∧RelV x u∧J.yld i H x H'∧tn (i+1) s2.heap∧∀b∈fp,H' b=none) E s1) E s
 done:∀(X:Cx),X.prog=P->X.w=w->X.K=K->X.calm=true->∀(i:Nat) (pins:List (Addr×Obj)) (s:Shared) (σ:St) (H:Hp) (E:Value->Shared->Prop),Inv X pins σ H s->(∀b∈fp,FpOk X pins H b)->tn i s.heap->J.stop i H->
  wpAny (model P w) X.A (pyNext (.ref it)) (fun r s1=>r=none∧Inv X pins σ H s1) E s
 self:∀(A:Around) (i:Nat) (s:Shared) (Q:Value->Shared->Prop) (E:Value->Shared->Prop),tn i s.heap->Q (.ref it) s->wpAny (model P w) A (pyIter (.ref it)) Q E s
abbrev TI:=St->Hp->(It->Hp->Prop)->Prop
def PIE(X:Cx)(pins:List (Addr×Obj))(σ:St)(tg:Expr)(R:It->Hp->Prop)(itv:Value)(s2:Shared):Prop:=
 ∃(it:Addr) (fp:List Addr) (tn:Nat->Heap->Prop) (J:It) (H':Hp),itv=.ref it∧Inv X pins σ H' s2∧Turn X.prog X.w X.K tg J fp it tn∧tn 0 s2.heap∧(∀b∈fp,FpOk X pins H' b)∧R J H'
def PI (X:Cx) (tg iter:Expr) (wi:TI):Prop:=
 ∀(pins:List (Addr×Obj)) (s:Shared) (σ:St) (H:Hp) (R:It->Hp->Prop),Inv X pins σ H s->wi σ H R->
   wpAny (model X.prog X.w) X.A (eval iter X.env) (fun v s1=>wpAny (model X.prog X.w) X.A (pyIter v) (PIE X pins σ tg R) X.xe s1) X.xe s
theorem go_of (ho:s.heap.get? it=some o) (hc:o.cls=.type n) (hd:o.data=.fields vs)
  (hn:["enumerate", "zip", "dict_itemiterator", "dict_reverseitemiterator", "odict_iterator", "itertools.zip_longest", "itertools.pairwise"].contains n=false) (hQ:Q () s):wpAny M A (letOwnedTupleGo tg (.ref it) u) Q E s:=by
 unfold letOwnedTupleGo
 cases tg<;>first
  |exact wpAny_pure hQ
  | (cases u<;>first
      |exact wpAny_pure hQ
      | (refine wpAny_bind (wpAny_load ho ?_)
         rw[hc,hd]
         show wpAny M A (if (["enumerate", "zip", "dict_itemiterator", "dict_reverseitemiterator", "odict_iterator", "itertools.zip_longest", "itertools.pairwise"].contains n&&vs[0]?==some (rawInt _))=true then _ else _) Q E s
         rw[if_neg (by intro h;rw[hn,Bool.false_and] at h;cases h)]
         exact wpAny_pure hQ))
def Itl(K:PySem.W.Frag)(a:Addr):It:=
 ⟨fun i H=>∃xs x,SqL K H a xs∧xs[i]?=some x,fun i H x H'=>H'=H∧∀xs,SqL K H a xs->xs[i]?=some x,fun i H=>∃xs,SqL K H a xs∧xs.length≤i⟩
def Itt(K:PySem.W.Frag)(a:Addr):It:=
 ⟨fun i H=>∃xs x,SqT K H a xs∧xs[i]?=some x,fun i H x H'=>H'=H∧∀xs,SqT K H a xs->xs[i]?=some x,fun i H=>∃xs,SqT K H a xs∧xs.length≤i⟩
def Itr(lo:Int)(n:Nat):It:=⟨fun i _=>i<n,fun i H x H'=>H'=H∧x=.int (lo+i),fun i _=>n≤i⟩
theorem turn_list{P:Program}{w:World}{K:PySem.W.Frag}{tg:Expr}(a it:Addr):Turn P w K tg (Itl K a) [it] it (fun i h=>h.IsListIter it a i) where
 mem:=by simp
 obj:=fun i h st b hb=>by
  have e:b=it:=by simpa using hb
  subst e
  obtain⟨o,e,c,d⟩:=st
  exact⟨o,e,fun v z=>by rw[d] at z;cases z⟩
 keep:=fun i h h' st k=>st.at fun o e=>k it (by simp) o e
 item:=by
  intro X hP hw hK hc i pins s σ H E I hf st hg
  subst hP hw hK
  obtain⟨xs,x,hq,hx⟩:=hg
  obtain⟨its,rv,p,hz⟩:=I.list hq
  obtain⟨u,hu,ru⟩:=rv.get hx
  obtain⟨f0,f1,f2,f3,f4,f5⟩:=hf it (by simp)
  refine wpAny_pyNext_list_item st p.isList (x:=u) (by simpa using hu) fun h' st' sb=>?_
  have I1:Inv X pins σ H { s with heap:=h' }:=I.turned (t':=s.toks) (fun b o hb e=>(sb.2 b hb).trans e) f0 f1 f3 f4 f5
  obtain⟨o,e,c,d⟩:=id st'
  exact⟨u,rfl,go_of (s:={ s with heap:=h' }) e c d (by decide) ⟨x,H,I1,ru,⟨rfl,fun ys hy=>by rw[I.list_inj hy hq];exact hx⟩,st',fun b hb=>(hf b hb).1⟩⟩
 done:=by
  intro X hP hw hK hc i pins s σ H E I hf st hg
  subst hP hw hK
  obtain⟨xs,hq,hx⟩:=hg
  obtain⟨its,rv,p,hz⟩:=I.list hq
  obtain⟨f0,f1,f2,f3,f4,f5⟩:=hf it (by simp)
  have hl:=rv.length
  exact wpAny_pyNext_list_end (I.ok.hd hc) st p.isList (by simp;lia) fun h' eb=>⟨rfl,I.turned (t':=s.toks) (fun b o hb e=>eb b o hb e) f0 f1 f3 f4 f5⟩
 self:=fun _ _ _ _ _ st h=>wpAny_pyIter_listiter st h
theorem turn_tuple{P:Program}{w:World}{K:PySem.W.Frag}{tg:Expr}(a it:Addr):Turn P w K tg (Itt K a) [it] it (fun i h=>h.IsTupleIter it a i) where
 mem:=by simp
 obj:=fun i h st b hb=>by
  have e:b=it:=by simpa using hb
  subst e
  obtain⟨o,e,c,d⟩:=st
  exact⟨o,e,fun v z=>by rw[d] at z;cases z⟩
 keep:=fun i h h' st k=>st.at fun o e=>k it (by simp) o e
 item:=by
  intro X hP hw hK hc i pins s σ H E I hf st hg
  subst hP hw hK
  obtain⟨xs,x,hq,hx⟩:=hg
  obtain⟨its,rv,p,hz⟩:=I.tuple hq
  obtain⟨u,hu,ru⟩:=rv.get hx
  obtain⟨f0,f1,f2,f3,f4,f5⟩:=hf it (by simp)
  refine wpAny_pyNext_tuple_item st (show s.heap.IsTuple a its.toArray from p) (x:=u) (by simpa using hu) fun h' st' sb=>?_
  have I1:Inv X pins σ H { s with heap:=h' }:=I.turned (t':=s.toks) (fun b o hb e=>(sb.2 b hb).trans e) f0 f1 f3 f4 f5
  obtain⟨o,e,c,d⟩:=id st'
  exact⟨u,rfl,go_of (s:={ s with heap:=h' }) e c d (by decide) ⟨x,H,I1,ru,⟨rfl,fun ys hy=>by rw[I.tuple_inj hy hq];exact hx⟩,st',fun b hb=>(hf b hb).1⟩⟩
 done:=by
  intro X hP hw hK hc i pins s σ H E I hf st hg
  subst hP hw hK
  obtain⟨xs,hq,hx⟩:=hg
  obtain⟨its,rv,p,hz⟩:=I.tuple hq
  obtain⟨f0,f1,f2,f3,f4,f5⟩:=hf it (by simp)
  have hl:=rv.length
  exact wpAny_pyNext_tuple_end (I.ok.hd hc) st (show s.heap.IsTuple a its.toArray from p) (by simp;lia) fun h' eb=>⟨rfl,I.turned (t':=s.toks) (fun b o hb e=>eb b o hb e) f0 f1 f3 f4 f5⟩
 self:=fun _ _ _ _ _ st h=>wpAny_pyIter_tupleiter st h
theorem turn_range {P:Program}{w:World}{K:PySem.W.Frag}{tg:Expr} (it:Addr) (lo:Int) (n:Nat):Turn P w K tg (Itr lo n) [it] it (fun i h=>IsRangeIter h it (lo + (i:Nat) * 1) ((n:Int) - (i:Nat)) 1) where
 mem:=by simp
 obj:=fun i h st b hb=>by
  have e:b=it:=by simpa using hb
  subst e
  exact⟨_,st,fun v z=>by
   have z':Data.fields _=Data.cell v:=z
   cases z'⟩
 keep:=fun i h h' st k=>k it (by simp) _ st
 item:=by
  intro X hP hw hK hc i pins s σ H E I hf st hg
  subst hP hw hK
  obtain⟨f0,f1,f2,f3,f4,f5⟩:=hf it (by simp)
  have W:=Walks.range (prog:=X.prog) (w:=X.w) (I.ok.hd hc) it lo 1 n
  refine W.item i s _ _ hg st fun v h' tk hv st' kk=>?_
  obtain⟨t,rfl⟩:=hv
  have I1:Inv X pins σ H { s with heap:=h',toks:=tk }:=I.turned (fun b o hb e=>kk b o (by simpa using hb) e) f0 f1 f3 f4 f5
  refine⟨_,rfl,go_of (s:={ s with heap:=h',toks:=tk }) (n := "range_iterator") st' rfl rfl (by decide) ⟨.int (lo+i),H,I1,⟨t,?_⟩,⟨rfl,rfl⟩,st',fun b hb=>(hf b hb).1⟩⟩
  rw[Int.mul_one]
 done:=by
  intro X hP hw hK hc i pins s σ H E I hf st hg
  subst hP hw hK
  obtain⟨f0,f1,f2,f3,f4,f5⟩:=hf it (by simp)
  exact wpAny_pyNext_range_end (I.ok.hd hc) st (by have:n≤i:=hg;lia) fun h' eb=>⟨rfl,I.turned (t':=s.toks) (fun b o hb e=>eb b o hb e) f0 f1 f3 f4 f5⟩
 self:=fun _ _ _ _ _ st h=>wpAny_pyIter_rangeiter st h
open PySem PySem.Spec PyProof.Rows
section
variable{X:Cx}{tg:Expr}
def iList(K:PySem.W.Frag)(tl:TE):TI:=fun σ H R=>tl σ H fun x H1=>∃a,x=.ref a∧(∃xs,SqL K H1 a xs)∧R (Itl K a) H1
def iTup(K:PySem.W.Frag)(tl:TE):TI:=fun σ H R=>tl σ H fun x H1=>∃a,x=.ref a∧(∃xs,SqT K H1 a xs)∧R (Itt K a) H1
theorem pi_list{l:Expr}{tl:TE}(hl:PE X l tl):PI X tg l (iList X.K tl):=by
 intro pins s σ H R I h
 refine thn (hl pins s σ H _ I h) fun v s1 ⟨x,H1,I1,r1,q1⟩=>?_
 obtain⟨a,e,⟨xs,hq⟩,q⟩:=q1
 subst e
 cases r1
 obtain⟨its,rv,p,hz⟩:=I1.list hq
 refine wpAny_pyIter_list p.isList ?_
 refine⟨s1.heap.objs.size,[s1.heap.objs.size],_,_,H1,rfl,I1.kept (t':=s1.toks) fun b o e=>Heap.get?_push_of_some _ e,turn_list a _,⟨_,Heap.get?_push_size _ rfl,rfl,rfl⟩,fun b hb=>?_,q⟩
 have e:b=s1.heap.objs.size:=by simpa using hb
 subst e
 exact I1.fpOk (Nat.le_refl _) (I1.hok.fresh (Nat.le_refl _))
theorem pi_tup{l:Expr}{tl:TE}(hl:PE X l tl):PI X tg l (iTup X.K tl):=by
 intro pins s σ H R I h
 refine thn (hl pins s σ H _ I h) fun v s1 ⟨x,H1,I1,r1,q1⟩=>?_
 obtain⟨a,e,⟨xs,hq⟩,q⟩:=q1
 subst e
 cases r1
 obtain⟨its,rv,p,hz⟩:=I1.tuple hq
 refine wpAny_pyIter_tuple (show s1.heap.IsTuple a its.toArray from p) ?_
 refine⟨s1.heap.objs.size,[s1.heap.objs.size],_,_,H1,rfl,I1.kept (t':=s1.toks) fun b o e=>Heap.get?_push_of_some _ e,turn_tuple a _,⟨_,Heap.get?_push_size _ rfl,rfl,rfl⟩,fun b hb=>?_,q⟩
 have e:b=s1.heap.objs.size:=by simpa using hb
 subst e
 exact I1.fpOk (Nat.le_refl _) (I1.hok.fresh (Nat.le_refl _))
theorem range_it{pins:List (Addr×Obj)}{R:It->Hp->Prop}{E:Value->Shared->Prop}{lo hi:Int}{tk:Nat}(I:Inv X pins σ H s)(h1:-(2^62)≤lo)(h2:lo<2^62)(h3:-(2^62)≤hi)(h4:hi<2^62)
  (q:R (Itr lo (hi-lo).toNat) H):wpAny (model X.prog X.w) X.A (pyIter (.ref s.heap.objs.size)) (PIE X pins σ tg R) E { s with heap:=s.heap.push { cls:=.type "range",data:=.fields #[.int lo t,.int hi u,.int 1 v] },toks:=tk }:=by
 refine wpAny_pyIter_range (IsRange.new ..) (small_one h1 h2 h3 h4) ?_
 have I1:Inv X pins σ H { s with heap:=s.heap.push { cls:=.type "range",data:=.fields #[.int lo t,.int hi u,.int 1 v] },toks:=tk }:=I.kept fun b o e=>Heap.get?_push_of_some _ e
 refine⟨(s.heap.push { cls:=.type "range",data:=.fields #[.int lo t,.int hi u,.int 1 v] }).objs.size,[(s.heap.push { cls:=.type "range",data:=.fields #[.int lo t,.int hi u,.int 1 v] }).objs.size],_,_,H,rfl,
  I1.kept (t':=tk) fun b o e=>Heap.get?_push_of_some _ e,turn_range _ lo (hi-lo).toNat,?_,fun b hb=>?_,q⟩
 ·have e1:lo+((0:Nat):Int)*1=lo:=by simp
  have e2:(((hi-lo).toNat:Nat):Int)-((0:Nat):Int)=Builtin.Range.rangeSize lo hi 1:=by rw[rangeSize_one];split<;>lia
  show IsRangeIter _ _ (lo+((0:Nat):Int)*1) ((((hi-lo).toNat:Nat):Int)-((0:Nat):Int)) 1
  rw[e1,e2]
  exact Heap.get?_push_size _ rfl
 ·have e:b=(s.heap.push { cls:=.type "range",data:=.fields #[.int lo t,.int hi u,.int 1 v] }).objs.size:=by simpa using hb
  subst e
  exact I1.fpOk (Nat.le_refl _) (I1.hok.fresh (Nat.le_refl _))
def iRng1(ta:TA):TI:=fun σ H R=>ta σ H fun vs H1=>∃j:Int,vs=[.int j]∧-(2^62)≤j∧j<2^62∧R (Itr 0 j.toNat) H1
def iRng2(ta:TA):TI:=fun σ H R=>ta σ H fun vs H1=>∃i j:Int,vs=[.int i,.int j]∧(-(2^62)≤i∧i<2^62∧-(2^62)≤j∧j<2^62)∧R (Itr i (j-i).toNat) H1
theorem pi_range1 (hg:Gl X "range") (hm:X.mg "range"=none) (ha:PA X [a] ta) (hs:starEach [a] X.env=[(false,eval a X.env)]:=by rfl):PI X tg (.Call (.Name "range" p) [a] [] pos) (iRng1 ta):=by
 intro pins s σ H R I h
 refine Call_ (ld_blt I hg hm boot_range (PyProof.Rows.callWith_type1 (thn (ha pos pins s σ H _ I h) fun us s1 ⟨vs,H1,I1,r1,q1⟩=>?_) hs rfl))
 obtain⟨j,e,q1,q2,q⟩:=q1
 subst e
 cases r1 with
 |cons r rr=>
   cases rr
   obtain⟨t,rfl⟩:=r
   exact call_range_1 (range_it I1 (by lia) (by lia) q1 q2 (by simpa using q))
theorem pi_range2 (hg:Gl X "range") (hm:X.mg "range"=none) (ha:PA X [a,b] ta) (hs:starEach [a,b] X.env=[(false,eval a X.env),(false,eval b X.env)]:=by rfl) (hs2:starEach [b] X.env=[(false,eval b X.env)]:=by rfl) :
  PI X tg (.Call (.Name "range" p) [a,b] [] pos) (iRng2 ta):=by
 intro pins s σ H R I h
 refine Call_ (ld_blt I hg hm boot_range (PyProof.Rows.callWith_type1 (thn (ha pos pins s σ H _ I h) fun us s1 ⟨vs,H1,I1,r1,q1⟩=>?_) (by rw[hs,hs2]) (by rw[hs2];rfl)))
 obtain⟨i,j,e,⟨q1,q2,q3,q4⟩,q⟩:=q1
 subst e
 cases r1 with
 | cons r rr=>
   cases rr with
   |cons r' rr=>
     cases rr
     obtain⟨t,rfl⟩:=r
     obtain⟨t',rfl⟩:=r'
     exact call_range_2 (range_it I1 q1 q2 q3 q4 q)
def tFor(wi:TI)(g:TG)(tb:TS):TS:=fun D σ H=>wi σ H fun J H1=>∃W:Nat->Nat->St->Hp->Prop,(∃m,W 0 m σ H1)∧∀i m σ H,W i m σ H->
 (J.stop i H∧D.nx σ H)∨(J.go i H∧∃N:St->Hp->Prop,(∀σ' H',N σ' H'->∃m',m'<m∧W (i+1) m' σ' H')∧∀x H',J.yld i H x H'->g x σ H' fun σ2 H2=>tb { D with nx:=N,ct:=N,bk:=D.nx } σ2 H2)
def pinsAt(fp:List Addr)(h:Heap):List (Addr×Obj):=fp.filterMap fun b=>(h.get? b).map fun o=>(b,o)
theorem mem_pinsAt(hb:b∈fp)(e:h.get? b=some o):(b,o)∈pinsAt fp h:=List.mem_filterMap.mpr ⟨b,hb,by rw[e];rfl⟩
theorem of_pinsAt (hp:p∈pinsAt fp h):p.1∈fp∧h.get? p.1=some p.2:=by
 obtain⟨b,hb,e⟩:=List.mem_filterMap.mp hp
 cases q:h.get? b with
 |none=>rw[q] at e;cases e
 |some o=>
   rw[q] at e
   have e':(b,o)=p:=Option.some.inj e
   subst e'
   exact⟨hb,q⟩
theorem Inv.pinned(I:Inv X pins σ H s)(hf:∀b∈fp,FpOk X pins H b)(ho:∀b∈fp,∃o,s.heap.get? b=some o∧∀v,o.data≠.cell v):Inv X (pins++pinsAt fp s.heap) σ H s:=
 I.pins_of fun p hp=>(List.mem_append.mp hp).elim (fun z=>I.pin p (List.mem_append_right _ z)) fun z=>by
  obtain⟨hb,e⟩:=of_pinsAt z
  obtain⟨f0,f1,f2,_⟩:=hf p.1 hb
  obtain⟨o,e',d⟩:=ho p.1 hb
  rw[e] at e';cases e'
  exact⟨e,f0,f1,f2,d⟩
theorem Inv.unpinned(I:Inv X (pins++pl) σ H s):Inv X pins σ H s:=I.pins_of fun p hp=>I.pin p (List.mem_append_right _ (List.mem_append_left _ hp))
theorem ps_for (hp:PassesOwn (model X.prog X.w) X.A X.env X.xe) (hc:X.calm=true) (hi:PI X tg iter wi) (hg:PG X tg g) (hb:PSs X body tb)
  (hs:∀x,foldedSetIterable iter X.env x=pure x:=by intro _;rfl):PS X (.For tg iter body [] pos) (tFor wi g tb):=by
 intro pins s σ H D I h
 refine wpAny_For (thn (hi pins s σ H _ I h) fun v s1 h1=>thn h1 fun itv s2 h2=>?_) hs
 obtain⟨it,fp,tn,J,H2,e,I2,T,st2,f2,W,⟨m0,w0⟩,turn⟩:=h2
 subst e
 -- what stays true of the iterator's objects through the loop
 have stat:∀{H':Hp},(∀b∈fp,H' b=none)->∀b∈fp,FpOk X pins H' b:=fun hn b hb=>⟨hn b hb,(f2 b hb).2⟩
 refine codeAny_forLoop_any (fun n s'=>∃i σ' H',Inv X pins σ' H' s'∧tn i s'.heap∧(∀b∈fp,H' b=none)∧W i n σ' H') ?_ m0 ⟨0,σ,H2,I2,st2,fun b hb=>(f2 b hb).1,w0⟩
 rintro n s3 ⟨i,σ3,H3,I3,st3,fr3,w3⟩
 rcases turn i n σ3 H3 w3 with ⟨stop,qn⟩ | ⟨go,N,hN,step⟩
 ·refine wpAny_passesOwn hp (thn (T.done X rfl rfl rfl hc i pins s3 σ3 H3 X.xe I3 (stat fr3) st3 stop) fun r s4 ⟨hr,I4⟩=>?_)
  subst hr
  exact wpAny_execs_nil ⟨σ3,H3,I4,qn⟩
 ·refine wpAny_passesOwn hp (thn (T.item X rfl rfl rfl hc i pins s3 σ3 H3 X.xe I3 (stat fr3) st3 go) fun r s4 ⟨u,hr,h4⟩=>?_)
  subst hr
  refine wpAny_passesOwn hp (thn h4 fun _ s5 ⟨x,H5,I5,r5,y5,st5,fr5⟩=>?_)
  have I5':=I5.pinned (stat fr5) (T.obj _ _ st5)
  refine wpAny_passesOwn hp (thn (hg _ s5 σ3 H5 x u _ I5' r5 (step x H5 y5)) fun _ s6 ⟨σ6,H6,I6,q6⟩=>?_)
  refine wpAny_passesOwn hp (thn (hb _ s6 σ6 H6 _ I6 q6) fun f s7 q7=>?_)
  have again:∀{σ7:St}{H7:Hp},Inv X (pins++pinsAt fp s5.heap) σ7 H7 s7->N σ7 H7->∃m,m<n∧∃i σ' H',Inv X pins σ' H' s7∧tn i s7.heap∧(∀b∈fp,H' b=none)∧W i m σ' H':=fun {σ7 H7} I7 n7=>by
   obtain⟨m',hm,w7⟩:=hN σ7 H7 n7
   refine⟨m',hm,i+1,σ7,H7,I7.unpinned,T.keep _ _ _ st5 fun b hb o e=>(I7.pin (b,o) (List.mem_append_right _ (List.mem_append_right _ (mem_pinsAt hb e)))).1,fun b hb=>?_,w7⟩
   obtain⟨o,e,d⟩:=T.obj _ _ st5 b hb
   exact (I7.pin (b,o) (List.mem_append_right _ (List.mem_append_right _ (mem_pinsAt hb e)))).2.1
  cases f with
  |next=>obtain⟨σ7,H7,I7,n7⟩:=q7;exact again I7 n7
  |cont=>obtain⟨σ7,H7,I7,n7⟩:=q7;exact again I7 n7
  |brk=>obtain⟨σ7,H7,I7,q7⟩:=q7;exact⟨σ7,H7,I7.unpinned,q7⟩
  |ret v=>obtain⟨x7,σ7,H7,I7,r7,q7⟩:=q7;exact⟨x7,σ7,H7,I7.unpinned,r7,q7⟩
end
open PySem PySem.Spec PyProof.Rows
abbrev R2:=V->V->Hp->VK->Prop
def OpR (X:Cx) (f:Value->Value->Sem Value) (r:R2):Prop:=
 ∀(pins:List (Addr×Obj)) (s:Shared) (σ:St) (H:Hp) (x y:V) (v u:Value) (Q:VK),Inv X pins σ H s->RelV x v->RelV y u->r x y H Q->
   wpAny (model X.prog X.w) X.A (f v u) (EP X pins σ Q) X.xe s
def UnR (X:Cx) (f:Value->Sem Value) (r:V->Hp->VK->Prop):Prop:=
 ∀(pins:List (Addr×Obj)) (s:Shared) (σ:St) (H:Hp) (x:V) (v:Value) (Q:VK),Inv X pins σ H s->RelV x v->r x H Q->
   wpAny (model X.prog X.w) X.A (f v) (EP X pins σ Q) X.xe s
def CallR (X:Cx) (f:Value) (r:List V->Hp->VK->Prop):Prop:=
 ∀(pins:List (Addr×Obj)) (s:Shared) (σ:St) (H:Hp) (xs:List V) (us:List Value) (Q:VK),Inv X pins σ H s->Vals xs us->r xs H Q->
   wpAny (model X.prog X.w) X.A (call f us) (EP X pins σ Q) X.xe s
def TruR (X:Cx) (r:V->Hp->(Bool->Hp->Prop)->Prop):Prop:=
 ∀(pins:List (Addr×Obj)) (s:Shared) (σ:St) (H:Hp) (x:V) (v:Value) (Q:Bool->Hp->Prop),Inv X pins σ H s->RelV x v->r x H Q->
   wpAny (model X.prog X.w) X.A (truthy v) (TP X pins σ Q) X.xe s
def tOp(r:R2)(ta tb:TE):TE:=fun σ H Q=>ta σ H fun x H1=>tb σ H1 fun y H2=>r x y H2 Q
def tUn(r:V->Hp->VK->Prop)(ta:TE):TE:=fun σ H Q=>ta σ H fun x H1=>r x H1 Q
def rI(C:Int->Int->Prop)(g:Int->Int->V):R2:=fun x y H Q=>∃i j,x=.int i∧y=.int j∧C i j∧Q (g i j) H
def rI0(g:Int->Int->V):R2:=fun x y H Q=>∃i j,x=.int i∧y=.int j∧Q (g i j) H
def rU(g:Int->V):V->Hp->VK->Prop:=fun x H Q=>∃i,x=.int i∧Q (g i) H
section
variable{X:Cx}{a b c:Expr}{ta tb tc:TE}{pos:Pos}
theorem binT(ha:PE X a ta)(hb:PE X b tb){pins:List (Addr×Obj)}{R:V->V->Hp->Prop}(I:Inv X pins σ H s)
  (h:ta σ H fun x H1=>tb σ H1 fun y H2=>R x y H2) {Q:Value->Shared->Prop}{f:Value->Value->Sem Value}
  (hf:∀v u s2 x y H2,Inv X pins σ H2 s2->RelV x v->RelV y u->R x y H2->wpAny (model X.prog X.w) X.A (f v u) Q X.xe s2) :
  wpAny (model X.prog X.w) X.A (eval a X.env) (fun v s₁=>wpAny (model X.prog X.w) X.A (eval b X.env) (fun u s₂=>wpAny (model X.prog X.w) X.A (f v u) Q X.xe s₂) X.xe s₁) X.xe s:=by
 refine thn (ha pins s σ H _ I h) fun v s1 ⟨x,H1,I1,r1,q1⟩=>?_
 refine thn (hb pins s1 σ H1 _ I1 q1) fun u s2 ⟨y,H2,I2,r2,q2⟩=>?_
 exact hf v u s2 x y H2 I2 r1 r2 q2
theorem pe_op(ho:OpR X (binaryOp op) r)(ha:PE X a ta)(hb:PE X b tb):PE X (.BinOp a op b pos) (tOp r ta tb):=by
 intro pins s σ H Q I h
 exact wpAny_BinOp (binT ha hb I h fun v u s2 x y H2 I2 rx ry q=>ho pins s2 σ H2 x y v u Q I2 rx ry q)
theorem pe_un(ho:UnR X (unaryOp op) r)(ha:PE X a ta):PE X (.UnaryOp op a pos) (tUn r ta):=by
 intro pins s σ H Q I h
 exact UnaryOp_ (thn (ha pins s σ H _ I h) fun v s1 ⟨x,H1,I1,r1,q1⟩=>ho pins s1 σ H1 x v Q I1 r1 q1)
theorem opI{f:Value->Value->Sem Value}{C:Int->Int->Prop}{g:Int->Int->Int}
  (rule:∀(i j:Int) (t u:Tok) (s:Shared) (Q:Value->Shared->Prop) (E:Value->Shared->Prop),C i j->Q (.int (g i j) s.toks) { s with toks:=s.toks+1 }->wpAny (model X.prog X.w) X.A (f (.int i t) (.int j u)) Q E s) :
  OpR X f (rI C fun i j=>.int (g i j)):=by
 intro pins s σ H x y v u Q I rx ry h
 obtain⟨i,j,rfl,rfl,hc,q⟩:=h
 obtain⟨t,rfl⟩:=rx
 obtain⟨t',rfl⟩:=ry
 exact rule i j t t' s _ _ hc ⟨.int (g i j),H,I.tok _,⟨_,rfl⟩,q⟩
theorem opI0{f:Value->Value->Sem Value}{g:Int->Int->Int}
  (rule:∀(i j:Int) (t u:Tok) (s:Shared) (Q:Value->Shared->Prop) (E:Value->Shared->Prop),Q (.int (g i j) s.toks) { s with toks:=s.toks+1 }->wpAny (model X.prog X.w) X.A (f (.int i t) (.int j u)) Q E s) :
  OpR X f (rI0 fun i j=>.int (g i j)):=by
 intro pins s σ H x y v u Q I rx ry h
 obtain⟨i,j,rfl,rfl,q⟩:=h
 obtain⟨t,rfl⟩:=rx
 obtain⟨t',rfl⟩:=ry
 exact rule i j t t' s _ _ ⟨.int (g i j),H,I.tok _,⟨_,rfl⟩,q⟩
theorem opB0{f:Value->Value->Sem Value}{g:Int->Int->Bool}
  (rule:∀(i j:Int) (t u:Tok) (s:Shared) (Q:Value->Shared->Prop) (E:Value->Shared->Prop),Q (.bool (g i j)) s->wpAny (model X.prog X.w) X.A (f (.int i t) (.int j u)) Q E s) :
  OpR X f (rI0 fun i j=>.bl (g i j)):=by
 intro pins s σ H x y v u Q I rx ry h
 obtain⟨i,j,rfl,rfl,q⟩:=h
 obtain⟨t,rfl⟩:=rx
 obtain⟨t',rfl⟩:=ry
 exact rule i j t t' s _ _ ⟨.bl (g i j),H,I,rfl,q⟩
def CPow(i j:Int):Prop:=0≤j∧j≤1000000∧i.natAbs<2^64
theorem op_add:OpR X (binaryOp .Add) (rI0 fun i j=>.int (i+j)):=opI0 fun _ _ _ _ _ _ _ q=>add_int q
theorem op_sub:OpR X (binaryOp .Sub) (rI0 fun i j=>.int (i-j)):=opI0 fun _ _ _ _ _ _ _ q=>sub_int q
theorem op_mod:OpR X (binaryOp .Mod) (rI (fun _ j=>0<j) fun i j=>.int (i%j)):=opI fun i j _ _ _ _ _ hc q=>by
 have h1:(0:Int)<j:=hc
 exact mod_int' (by lia) (by rw[Int.fmod_eq_emod_of_nonneg i (by lia)];exact q)
theorem op_pow:OpR X (binaryOp .Pow) (rI CPow fun i j=>.int (i^j.toNat)):=opI fun _ _ _ _ _ _ _ hc q=>pow_int_small hc.1 hc.2.1 hc.2.2 q
theorem iop_add:OpR X (inplaceOp .Add) (rI0 fun i j=>.int (i+j)):=opI0 fun _ _ _ _ _ _ _ q=>iadd_int q
theorem iop_sub:OpR X (inplaceOp .Sub) (rI0 fun i j=>.int (i-j)):=opI0 fun _ _ _ _ _ _ _ q=>isub_int q
theorem unI{f:Value->Sem Value}{g:Int->Int}
  (rule:∀(i:Int) (t:Tok) (s:Shared) (Q:Value->Shared->Prop) (E:Value->Shared->Prop),Q (.int (g i) s.toks) { s with toks:=s.toks+1 }->wpAny (model X.prog X.w) X.A (f (.int i t)) Q E s) :
  UnR X f (rU fun i=>.int (g i)):=by
 intro pins s σ H x v Q I rx h
 obtain⟨i,rfl,q⟩:=h
 obtain⟨t,rfl⟩:=rx
 exact rule i t s _ _ ⟨.int (g i),H,I.tok _,⟨_,rfl⟩,q⟩
theorem un_neg:UnR X (unaryOp .USub) (rU fun i=>.int (-i)):=unI fun _ _ _ _ _ q=>neg_int q
end
def scal:V->V->Bool
 |.non,.non=>true | .non,.int _=>true | .int _,.non=>true | .non,.bl _=>true | .bl _,.non=>true | .non,.str _=>true | .str _,.non=>true
 |.int _,.int _=>true | .bl _,.bl _=>true | .str _,.str _=>true | .byt _,.byt _=>true
 |.int _,.str _=>true | .str _,.int _=>true | .bl _,.str _=>true | .str _,.bl _=>true
 |_,_=>false
def rEq:R2:=fun x y H Q=>scal x y=true∧Q (.bl (decide (x=y))) H
def rNe:R2:=fun x y H Q=>scal x y=true∧Q (.bl (!decide (x=y))) H
theorem dec_int:decide (V.int i=V.int j)=(i==j):=by
 rw[Bool.eq_iff_iff]
 simp
theorem dec_bl:decide (V.bl i=V.bl j)=(i==j):=by
 rw[Bool.eq_iff_iff]
 simp
theorem dec_str:decide (V.str i=V.str j)=(i==j):=by
 rw[Bool.eq_iff_iff]
 simp
theorem dec_byt:decide (V.byt i=V.byt j)=(i.toList==j.toList):=by
 rw[Bool.eq_iff_iff]
 cases i
 cases j
 simp
section
variable{X:Cx}{a b c:Expr}{ta tb tc:TE}{pos:Pos}
theorem fin_bl(I:Inv X pins σ H s)(q:Q (.bl k) H)(e:k=k'):EP X pins σ Q (.bool k') s:=by
 subst e
 exact⟨.bl k,H,I,rfl,q⟩
theorem op_eq:OpR X (compareOp .Eq) rEq:=by
 intro pins s σ H x y v u Q I rx ry h
 obtain⟨hs,q⟩:=h
 cases x with
 |non=>
   cases rx
   cases y with
   |non=>cases ry;exact PySem.EqNone.eq_none_none (fin_bl I q (by simp))
   |bl j=>cases ry;exact PySem.EqNone.eq_none_bool (fin_bl I q (by simp))
   |int j=>obtain⟨t',rfl⟩:=ry;exact PySem.EqNone.eq_none_int (fin_bl I q (by simp))
   |str j=>obtain⟨t',rfl⟩:=ry;exact PySem.EqNone.eq_none_str (fin_bl I q (by simp))
   |_=>exact absurd (show false=true from hs) Bool.false_ne_true
 |bl i=>
   cases rx
   cases y with
   |non=>cases ry;exact PySem.EqNone.eq_bool_none (fin_bl I q (by simp))
   |bl j=>cases ry;exact eq_bool (fin_bl I q dec_bl)
   |str j=>obtain⟨t',rfl⟩:=ry;exact PySem.EqMixed.eq_bool_str (fin_bl I q (by simp))
   |_=>exact absurd (show false=true from hs) Bool.false_ne_true
 |int i=>
   obtain⟨t,rfl⟩:=rx
   cases y with
   |non=>cases ry;exact PySem.EqNone.eq_int_none (fin_bl I q (by simp))
   |int j=>obtain⟨t',rfl⟩:=ry;exact eq_int (fin_bl I q dec_int)
   |str j=>obtain⟨t',rfl⟩:=ry;exact PySem.EqMixed.eq_int_str (fin_bl I q (by simp))
   |_=>exact absurd (show false=true from hs) Bool.false_ne_true
 |str i=>
   obtain⟨t,rfl⟩:=rx
   cases y with
   |non=>cases ry;exact PySem.EqNone.eq_str_none (fin_bl I q (by simp))
   |bl j=>cases ry;exact PySem.EqMixed.eq_str_bool (fin_bl I q (by simp))
   |int j=>obtain⟨t',rfl⟩:=ry;exact PySem.EqMixed.eq_str_int (fin_bl I q (by simp))
   |str j=>obtain⟨t',rfl⟩:=ry;exact eq_str (fin_bl I q dec_str)
   |_=>exact absurd (show false=true from hs) Bool.false_ne_true
 |byt i=>
   obtain⟨t,rfl⟩:=rx
   cases y with
   |byt j=>obtain⟨t',rfl⟩:=ry;exact PySem.W.eq_bytes (fin_bl I q dec_byt)
   |_=>exact absurd (show false=true from hs) Bool.false_ne_true
 |_=>cases y<;>exact absurd (show false=true from hs) Bool.false_ne_true
theorem op_ne:OpR X (compareOp .NotEq) rNe:=by
 intro pins s σ H x y v u Q I rx ry h
 obtain⟨hs,q⟩:=h
 cases x with
 |non=>
   cases rx
   cases y with
   |non=>cases ry;exact PySem.EqNone.ne_none_none (fin_bl I q (by simp))
   |bl j=>cases ry;exact PySem.EqNone.ne_none_bool (fin_bl I q (by simp))
   |int j=>obtain⟨t',rfl⟩:=ry;exact PySem.EqNone.ne_none_int (fin_bl I q (by simp))
   |str j=>obtain⟨t',rfl⟩:=ry;exact PySem.EqNone.ne_none_str (fin_bl I q (by simp))
   |_=>exact absurd (show false=true from hs) Bool.false_ne_true
 |bl i=>
   cases rx
   cases y with
   |non=>cases ry;exact PySem.EqNone.ne_bool_none (fin_bl I q (by simp))
   |bl j=>cases ry;exact ne_bool (fin_bl I q (congrArg not dec_bl))
   |str j=>obtain⟨t',rfl⟩:=ry;exact PySem.EqMixed.ne_bool_str (fin_bl I q (by simp))
   |_=>exact absurd (show false=true from hs) Bool.false_ne_true
 |int i=>
   obtain⟨t,rfl⟩:=rx
   cases y with
   |non=>cases ry;exact PySem.EqNone.ne_int_none (fin_bl I q (by simp))
   |int j=>obtain⟨t',rfl⟩:=ry;exact ne_int (fin_bl I q (congrArg not dec_int))
   |str j=>obtain⟨t',rfl⟩:=ry;exact PySem.EqMixed.ne_int_str (fin_bl I q (by simp))
   |_=>exact absurd (show false=true from hs) Bool.false_ne_true
 |str i=>
   obtain⟨t,rfl⟩:=rx
   cases y with
   |non=>cases ry;exact PySem.EqNone.ne_str_none (fin_bl I q (by simp))
   |bl j=>cases ry;exact PySem.EqMixed.ne_str_bool (fin_bl I q (by simp))
   |int j=>obtain⟨t',rfl⟩:=ry;exact PySem.EqMixed.ne_str_int (fin_bl I q (by simp))
   |str j=>obtain⟨t',rfl⟩:=ry;exact ne_str (fin_bl I q (congrArg not dec_str))
   |_=>exact absurd (show false=true from hs) Bool.false_ne_true
 |byt i=>
   obtain⟨t,rfl⟩:=rx
   cases y with
   |byt j=>obtain⟨t',rfl⟩:=ry;exact PySem.W.ne_bytes (fin_bl I q (congrArg not dec_byt))
   |_=>exact absurd (show false=true from hs) Bool.false_ne_true
 |_=>cases y<;>exact absurd (show false=true from hs) Bool.false_ne_true
theorem op_lt:OpR X (compareOp .Lt) (rI0 fun i j=>.bl (decide (i<j))):=opB0 fun _ _ _ _ _ _ _ q=>lt_int q
theorem op_le:OpR X (compareOp .LtE) (rI0 fun i j=>.bl (decide (i≤j))):=opB0 fun _ _ _ _ _ _ _ q=>le_int q
theorem op_gt:OpR X (compareOp .Gt) (rI0 fun i j=>.bl (decide (j<i))):=opB0 fun _ _ _ _ _ _ _ q=>gt_int q
theorem op_ge:OpR X (compareOp .GtE) (rI0 fun i j=>.bl (decide (j≤i))):=opB0 fun _ _ _ _ _ _ _ q=>ge_int q
theorem OpR.or(h:OpR X f r)(h':OpR X f r'):OpR X f (fun x y H Q=>r x y H Q∨r' x y H Q):=by
 intro pins s σ H x y v u Q I rx ry q
 rcases q with q | q
 ·exact h pins s σ H x y v u Q I rx ry q
 ·exact h' pins s σ H x y v u Q I rx ry q
theorem nomark(b:Expr)(h:op≠.In:=by decide)(h2:op≠.NotIn:=by decide):behindInMarks op b=false:=by
 have e1:(op==CmpOp.In)=false:=by cases op<;>first | rfl | exact absurd rfl h
 have e2:(op==CmpOp.NotIn)=false:=by cases op<;>first | rfl | exact absurd rfl h2
 cases b<;>simp[behindInMarks,e1,e2]
theorem pe_cmpR(ho:OpR X (compareOp op) r)(ha:PE X a ta)(hb:PE X b tb)(hm:behindInMarks op b=false):PE X (.Compare a [op] [b] pos) (tOp r ta tb):=by
 intro pins s σ H Q I h
 exact wpAny_Compare1 (binT ha hb I h fun v u s2 x y H2 I2 rx ry q=>ho pins s2 σ H2 x y v u Q I2 rx ry q) hm
def tTest(t:TE):TT:=fun σ H Q=>t σ H fun x H'=>∃k,x=.bl k∧Q k H'
theorem pt_cmpR(ho:OpR X (compareOp op) r)(ha:PE X a ta)(hb:PE X b tb)(hm:behindInMarks op b=false):PT X (.Compare a [op] [b] pos) (tTest (tOp r ta tb)):=by
 intro pins s σ H Q I h
 refine wpAny_isTrue_Compare1 (thn (ha pins s σ H _ I h) fun v s1 ⟨x,H1,I1,r1,q1⟩=>thn (hb pins s1 σ H1 _ I1 q1) fun u s2 ⟨y,H2,I2,r2,q2⟩=>
  thn (ho pins s2 σ H2 x y v u _ I2 r1 r2 q2) fun c s3 ⟨z,H3,I3,r3,k,e,q3⟩=>?_) hm
 subst e
 cases r3
 exact wpAny_truthy_bool ⟨H3,I3,q3⟩
def tChain(r r':R2)(ta tb tc:TE):TE:=fun σ H Q=>ta σ H fun x H1=>tb σ H1 fun y H2=>r x y H2 fun z H3=>∃k,z=.bl k ∧
 (if k=true then tc σ H3 fun w' H4=>r' y w' H4 Q else Q (.bl false) H3)
theorem pe_chain(ho:OpR X (compareOp op) r)(ho':OpR X (compareOp op') r')(ha:PE X a ta)(hb:PE X b tb)(hc:PE X c tc)
  (hm:lastMarks [op,op'] [b,c]=false:=by with_unfolding_all rfl):PE X (.Compare a [op,op'] [b,c] pos) (tChain r r' ta tb tc):=by
 intro pins s σ H Q I h
 refine Compare_chain (thn (ha pins s σ H _ I h) fun v s1 ⟨x,H1,I1,r1,q1⟩=>chain_link (thn (hb pins s1 σ H1 _ I1 q1) fun u s2 ⟨y,H2,I2,r2,q2⟩=>
  thn (ho pins s2 σ H2 x y v u _ I2 r1 r2 q2) fun d s3 ⟨z,H3,I3,r3,k,e,q3⟩=>?_)) hm
 subst e
 cases r3
 refine wpAny_truthy_bool ?_
 cases k with
 |false=>exact ite_ff ⟨.bl false,H3,I3,rfl,q3⟩
 |true=>exact ite_tt (chain_last (thn (hc pins s3 σ H3 _ I3 q3) fun w' s4 ⟨z',H4,I4,r4,q4⟩=>ho' pins s4 σ H4 y z' u w' Q I4 r2 r4 q4))
theorem pt_chain (ho:OpR X (compareOp op) r) (ho':OpR X (compareOp op') r') (ha:PE X a ta) (hb:PE X b tb) (hc:PE X c tc)
  (hm:lastMarks [op,op'] [b,c]=false:=by with_unfolding_all rfl):PT X (.Compare a [op,op'] [b,c] pos) (tTest (tChain r r' ta tb tc)):=by
 intro pins s σ H Q I h
 refine isTrue_chain (thn (ha pins s σ H _ I h) fun v s1 ⟨x,H1,I1,r1,q1⟩=>test_link (thn (hb pins s1 σ H1 _ I1 q1) fun u s2 ⟨y,H2,I2,r2,q2⟩=>
  thn (ho pins s2 σ H2 x y v u _ I2 r1 r2 q2) fun d s3 ⟨z,H3,I3,r3,k,e,q3⟩=>?_)) hm
 subst e
 cases r3
 refine wpAny_truthy_bool ?_
 cases k with
 |false=>
   obtain⟨k',e',q'⟩:=q3
   cases e'
   exact ite_ff ⟨H3,I3,q'⟩
 |true=>
   refine ite_tt (test_last (thn (hc pins s3 σ H3 _ I3 q3) fun w' s4 ⟨z',H4,I4,r4,q4⟩=>thn (ho' pins s4 σ H4 y z' u w' _ I4 r2 r4 q4) fun d' s5 ⟨z2,H5,I5,r5,k2,e2,q5⟩=>?_))
   subst e2
   cases r5
   exact wpAny_truthy_bool ⟨H5,I5,q5⟩
def TruV(K:PySem.W.Frag)(x:V)(H:Hp)(k:Bool):Prop:=
 match x with
 |.non=>k=false
 |.bl b=>k=b
 |.int i=>k=(i != 0)
 |.str y=>y.length≤sizeLine∧k=((y.length:Int) != 0)
 |.byt y=>y.size≤sizeLine∧k=((y.size:Int) != 0)
 |.ref p=>(∃xs,SqL K H p xs∧k=!xs.isEmpty)∨(∃xs,SqT K H p xs∧k=!xs.isEmpty)∨∃kvs,H p=some (.dK kvs)∧k=!kvs.isEmpty
 |_=>False
theorem isEmpty_kv(r:KV kvs vs):(!vs.isEmpty)=!kvs.isEmpty:=by
 cases r<;>rfl
theorem isEmpty_of(r:Vals xs its):(!its.toArray.isEmpty)=!xs.isEmpty:=by
 cases r<;>simp
theorem line63:(sizeLine:Nat)<2^63:=by rw[sizeLine_eq];decide
theorem tru_ok:TruR X (fun x H Q=>∃ k,TruV X.K x H k∧Q k H):=by
 intro pins s σ H x v Q I rx h
 obtain⟨k,e,q⟩:=h
 have hl:=line63
 have hs:sizeLine=16777216:=sizeLine_eq
 cases x with
 |non=>
   cases rx
   have e':k=false:=e
   subst e'
   exact truthy_none ⟨H,I,q⟩
 |bl b=>
   cases rx
   have e':k=b:=e
   subst e'
   exact wpAny_truthy_bool ⟨H,I,q⟩
 |int i=>
   obtain⟨t,rfl⟩:=rx
   have e':k=(i != 0):=e
   subst e'
   exact PySem.P.truthy_int ⟨H,I,q⟩
 |str y=>
   obtain⟨t,rfl⟩:=rx
   obtain⟨hy,e'⟩:y.length≤sizeLine∧k=((y.length:Int) != 0):=e
   subst e'
   exact PySem.P.truthy_str (by lia) ⟨H,I.tok _,q⟩
 |byt y=>
   obtain⟨t,rfl⟩:=rx
   obtain⟨hy,e'⟩:y.size≤sizeLine∧k=((y.size:Int) != 0):=e
   subst e'
   exact PySem.W.truthy_bytes (by lia) ⟨H,I.tok _,q⟩
 | ref p=>
   cases rx
   have e':(∃xs,SqL X.K H p xs∧k=!xs.isEmpty)∨(∃xs,SqT X.K H p xs∧k=!xs.isEmpty)∨∃kvs,H p=some (.dK kvs)∧k=!kvs.isEmpty:=e
   rcases e' with ⟨xs,hx,e'⟩ | ⟨xs,hx,e'⟩ | ⟨kvs,hx,e'⟩
   ·subst e'
    obtain⟨its,r,pl,hz⟩:=I.list hx
    have hlen:=r.length
    exact wpAny_truthy_list pl.isList (by simp only[List.size_toArray];lia) ⟨H,I.tok _,by rw[isEmpty_of r];exact q⟩
   ·subst e'
    obtain⟨its,r,pl,hz⟩:=I.tuple hx
    have hlen:=r.length
    exact truthy_tuple pl (by simp only[List.size_toArray];lia) ⟨H,I.tok _,by rw[isEmpty_of r];exact q⟩
   ·subst e'
    obtain⟨hz,hS,vs,r,m⟩:kvs.length≤sizeLine∧(p==sysModules)=false∧∃vs,KV kvs vs∧s.heap.DictOf (mixKind X.prog X.w) p vs:=I.hok p _ hx
    have hlen:kvs.length=vs.length:=Paired.length r
    exact wpAny_truthy_dict hS m (by lia) ⟨H,I.tok _,by rw[isEmpty_kv r];exact q⟩
 |_=>exact (show False from e).elim
theorem pt_truth(ha:PE X a ta)(he:∀whole,isTrue a X.env whole=(do let v ←whole;standAt a.pos;holding [v] (truthy v))) :
  PT X a (fun σ H Q=>ta σ H fun x H'=>∃k,TruV X.K x H' k∧Q k H'):=by
 intro pins s σ H Q I h
 exact isTrue_plain (thn (ha pins s σ H _ I h) fun v s1 ⟨x,H1,I1,r1,q1⟩=>tru_ok pins s1 σ H1 x v Q I1 r1 q1) (he _)
theorem op_add_str:OpR X (binaryOp .Add) (fun x y H Q=>∃i j,x=.str i∧y=.str j∧i.length+j.length≤sizeLine∧Q (.str (i++j)) H):=by
 intro pins s σ H x y v u Q I rx ry h
 obtain⟨i,j,rfl,rfl,hz,q⟩:=h
 obtain⟨t,rfl⟩:=rx
 obtain⟨t',rfl⟩:=ry
 exact add_str (fun t' tk=>⟨.str (i++j),H,I.tok _,⟨_,rfl⟩,q⟩) hz
theorem vals1(r:Vals [x] us):∃u,us=[u]∧RelV x u:=by
 cases r with
 |cons r1 r2=>cases r2;exact⟨_,rfl,r1⟩
theorem vals2 (r:Vals [x,y] us):∃ u w',us=[u,w']∧RelV x u∧RelV y w':=by
 cases r with
 |cons r1 r2=>
   cases r2 with
   |cons r3 r4=>cases r4;exact⟨_,_,rfl,r1,r3⟩
theorem call_abs:CallR X (.builtin "abs") (fun xs H Q=>∃i,xs=[.int i]∧Q (.int (if i<0 then -i else i)) H):=by
 intro pins s σ H xs us Q I r h
 obtain⟨i,rfl,q⟩:=h
 obtain⟨u,rfl,t,rfl⟩:=vals1 r
 exact call_abs_int fun u tk=>⟨.int (if i<0 then -i else i),H,I.tok _,⟨_,rfl⟩,q⟩
theorem call_max2(hc:X.calm=true):CallR X (.builtin "max") (fun xs H Q=>∃i j,xs=[.int i,.int j]∧Q (.int (if j > i then j else i)) H):=by
 intro pins s σ H xs us Q I r h
 obtain⟨i,j,rfl,q⟩:=h
 obtain⟨u,w',rfl,⟨t,rfl⟩,⟨t',rfl⟩⟩:=vals2 r
 refine max_two_ints (I.ok.hd hc) fun h' tk k=>⟨_,H,I.kept k,?_,q⟩
 by_cases hj:j > i
 ·rw[if_pos hj,if_pos hj];exact⟨_,rfl⟩
 ·rw[if_neg hj,if_neg hj];exact⟨_,rfl⟩
theorem call_min2(hc:X.calm=true):CallR X (.builtin "min") (fun xs H Q=>∃i j,xs=[.int i,.int j]∧Q (.int (if j<i then j else i)) H):=by
 intro pins s σ H xs us Q I r h
 obtain⟨i,j,rfl,q⟩:=h
 obtain⟨u,w',rfl,⟨t,rfl⟩,⟨t',rfl⟩⟩:=vals2 r
 refine min_two_ints (I.ok.hd hc) fun h' tk k=>⟨_,H,I.kept k,?_,q⟩
 by_cases hj:j<i
 ·rw[if_pos hj,if_pos hj];exact⟨_,rfl⟩
 ·rw[if_neg hj,if_neg hj];exact⟨_,rfl⟩
end
open PySem PySem.Spec PyProof.Rows
structure ObjM(h:Heap)(x dx C:Addr)(mA:Str->Option Value):Prop where
 obj:h.get? x=some (PySem.W.instObj C dx)
 ns:h.Ns1 dx mA
 ne:dx≠x
theorem lookIn_ns {h:Heap}{dx:Addr}{mA:Str->Option Value} (n:h.Ns1 dx mA):∃ od,h.get? dx=some od∧∀ name,PySem.W.lookIn name od=some (mA name):=by
 obtain⟨o,es,ep,ho,hd,hk,_,hm⟩:=n
 refine⟨o,ho,fun name=>?_⟩
 have e:=hm name
 unfold nsFind findBy at e
 rw[←Array.find?_toList] at e
 unfold PySem.W.lookIn
 rw[hd]
 dsimp only
 split
 ·rename_i y q
  rw[q] at e
  exact congrArg some e
 ·rename_i q
  rw[q] at e
  have a:es.toList.any (·.refKey)=false:=by
   rw[List.any_eq_false]
   intro y hy
   obtain⟨z,t,hkey⟩:=hk y (Array.mem_toList_iff.mp hy)
   simp[DictEntry.refKey,hkey]
  have a':¬ es.toList.any (·.refKey)=true:=by rw[a];exact Bool.false_ne_true
  rw[if_neg a']
  exact congrArg some e
theorem ObjM.look(I:ObjM h x dx C mA):∃od,PySem.W.InstAt h x (PySem.W.instObj C dx) C (some od)∧∀name,PySem.W.lookIn name od=some (mA name):=
 let ⟨od,ho,hl⟩:=lookIn_ns I.ns
 ⟨od,⟨I.obj,rfl,rfl,ho⟩,hl⟩
section
variable{P:Program}{w:World}{H H':Hp}{h h':Heap}{a C dx:Addr}{fs fs':List (Str×V)}
theorem ins_get(hok:HOk P w H h)(e:H a=some (.ins C dx fs)):∃mA,ObjM h a dx C mA∧(∀f,RelO (fs.lookup f) (mA f))∧PySem.Within mA (fs.map (·.1))∧fs.length≤1000∧H dx=some (.own a):=by
 obtain⟨d,z,ne,ob,mA,n,r,q⟩:=(show ObjOk P w H h a (.ins C dx fs) from hok a _ e)
 exact⟨mA,⟨ob,n,ne⟩,r,q,z,d⟩
end
structure Cls(K:PySem.W.Frag)(C:Addr):Prop where
 pg:PySem.W.plainGet K C Str.empty=true
 hd:PySem.W.hasDictIn K C=true
 po:PySem.W.plainOver K C=true
 sa:PySem.W.findIn K (.ref C) "__setattr__"=some (some (.builtin "object.__setattr__"))
theorem Cls.get{K:PySem.W.Frag}{C:Addr}(c:Cls K C)(f:Str):PySem.W.plainGet K C f=true:=c.pg
section
variable{X:Cx}{pins:List (Addr×Obj)}{σ:St}{H:Hp}{s:Shared}{A:Around}{E:Value->Shared->Prop}{Q:Value->Shared->Prop}{c:Value}{b:Bool}
inductive TyOf (K:PySem.W.Frag) (H:Hp):V->Value->Prop where
 |non:TyOf K H .non (.type "NoneType")
 |bl (x:Bool):TyOf K H (.bl x) (.type "bool")
 |int (i:Int):TyOf K H (.int i) (.type "int")
 |str (x:Str):TyOf K H (.str x) (.type "str")
 |flt (x:UInt64):TyOf K H (.flt x) (.type "float")
 |lst {a:Addr}{xs:List V} (e:H a=some (.lst xs)):TyOf K H (.ref a) (.type "list")
 |frz {a:Addr}{o:Obj}{xs:List V} (e:H a=some (.frz o (.lst xs))):TyOf K H (.ref a) (.type "list")
 |tup {a:Addr}{xs:List V} (e:H a=some (.tup xs)):TyOf K H (.ref a) (.type "tuple")
 |dK {a:Addr}{kvs:List (Key×V)} (e:H a=some (.dK kvs)):TyOf K H (.ref a) (.type "dict")
 |dT {a:Addr}{kvs:List (List Key×V)} (e:H a=some (.dT kvs)):TyOf K H (.ref a) (.type "dict")
 |ins {a C dx:Addr}{fs:List (Str×V)} (e:H a=some (.ins C dx fs)) (cl:Cls K C) (ha:PySem.W.findIn K (.ref C) "__class__"=some (some (.builtin "object.__class__")))
   (hn:PySem.W.specialIn K (.builtin "object.__class__") "__get__"=some (some (.builtin "getset_descriptor.__get__"))) (htk:PySem.W.takesIn K (.builtin "object.__class__")=some true)
   (hm:PySem.W.mroIn K C (.type "object")=some true):TyOf K H (.ref a) (.ref C)
theorem isinst_ok (I:Inv X pins σ H s) (rx:RelV x u) (ty:TyOf X.K H x t) (e:PySem.W.kitOne X.K t c=some b) (h:∀ tk,Q (.bool b) { s with toks:=tk }) :
  wpAny (model X.prog X.w) A (call (.builtin "isinstance") [u,c]) Q E s:=by
 cases ty with
 |non=>cases (show u=Value.none from rx);exact PySem.W.kia_one PySem.W.kitx_none I.kIn True.intro e (fun z=>nomatch z) h
 |bl y=>cases (show u=Value.bool y from rx);exact PySem.W.kia_one PySem.W.kitx_bool I.kIn True.intro e (fun z=>nomatch z) h
 |int i=>obtain⟨t,q⟩:=(show ∃t,u=Value.int i t from rx);cases q;exact PySem.W.kia_one PySem.W.kitx_int I.kIn True.intro e (fun z=>nomatch z) h
 |str y=>obtain⟨t,q⟩:=(show ∃t,u=Value.str y t from rx);cases q;exact PySem.W.kia_one PySem.W.kitx_str I.kIn True.intro e (fun z=>nomatch z) h
 |flt y=>obtain⟨t,q⟩:=(show ∃t,u=Value.float y t from rx);cases q;exact PySem.W.kia_one PySem.W.kitx_float I.kIn True.intro e (fun z=>nomatch z) h
 | @lst a xs ea=>
   cases (show u=Value.ref a from rx)
   obtain⟨_,_,n,_,h1⟩:=(show ObjOk X.prog X.w H s.heap a (.lst xs) from I.hok a _ ea)
   exact PySem.W.kia_one PySem.W.kitx_list I.kIn ⟨_,h1,rfl⟩ e (fun z=>nomatch z) h
 | @frz a ob xs ea=>
   cases (show u=Value.ref a from rx)
   obtain⟨_,_,_,n,_,h1⟩:=(show ObjOk X.prog X.w H s.heap a (.frz ob (.lst xs)) from I.hok a _ ea)
   exact PySem.W.kia_one PySem.W.kitx_list I.kIn ⟨_,h1,rfl⟩ e (fun z=>nomatch z) h
 | @tup a xs ea=>
   cases (show u=Value.ref a from rx)
   obtain⟨_,_,_,p⟩:=(show ObjOk X.prog X.w H s.heap a (.tup xs) from I.hok a _ ea)
   obtain⟨o,h1,h2,_⟩:=p
   exact PySem.W.kia_one PySem.W.kitx_tuple I.kIn ⟨o,h1,h2⟩ e (fun z=>nomatch z) h
 | @dK a kvs ea=>
   cases (show u=Value.ref a from rx)
   obtain⟨_,_,vs,_,p⟩:=(show ObjOk X.prog X.w H s.heap a (.dK kvs) from I.hok a _ ea)
   obtain⟨o,es,ep,h1,h2,_⟩:=p
   exact PySem.W.kia_one PySem.W.kitx_dict I.kIn ⟨o,h1,h2.1⟩ e (fun z=>nomatch z) h
 | @dT a kvs ea=>
   cases (show u=Value.ref a from rx)
   obtain⟨_,_,xs,_,o,es,ep,h1,h2,_⟩:=(show ObjOk X.prog X.w H s.heap a (.dT kvs) from I.hok a _ ea)
   exact PySem.W.kia_one PySem.W.kitx_dict I.kIn ⟨o,h1,h2.1⟩ e (fun z=>nomatch z) h
 | @ins a C dx fs ea cl ha hn htk hm=>
   cases (show u=Value.ref a from rx)
   obtain⟨mA,O,_⟩:=ins_get I.hok ea
   obtain⟨od,J,_⟩:=O.look
   exact PySem.W.kia_one (PySem.W.kitx_own (cl.get _) cl.hd ha hn htk hm) I.kIn J e (fun z=>nomatch z) h
end
open PySem PySem.Spec PyProof.Rows
structure Room(k:Nat)(A:Around):Prop where
 hd:A.handled=none
 dp:A.depth+3*k+5<recursionLimit
 un:A.units+16*k+200<cLine
 gd:A.guards=some []
theorem Room.mono(r:Room k A)(h:j≤k):Room j A:=⟨r.hd,by have:=r.dp;lia,by have:=r.un;lia,r.gd⟩
theorem Room.deeper(r:Room (k+1) A)(env:Env):Room k (A.deeper env):=
 ⟨r.hd,by have:=r.dp;show A.depth+1+3*k+5<_;lia,by have:=r.un;show A.units+3+16*k+200<_;lia,r.gd⟩
theorem Room.depth(r:Room k A):A.depth<recursionLimit:=by have:=r.dp;lia
theorem Room.units(r:Room k A):A.units+64<cLine:=by have:=r.un;lia
def tNil:TA:=fun _ H Q=>Q [] H
def tCons(ta:TE)(tr:TA):TA:=fun σ H Q=>ta σ H fun x H1=>tr σ H1 fun xs H2=>Q (x::xs) H2
section
variable{X:Cx}{e:Expr}{es:List Expr}{te:TE}{t:TA}{pos:Pos}
theorem pa_nil:PA X [] tNil:=fun _ _ _ _ H Q I h=>Calls.spliced_nil ⟨[],H,I,.nil,h⟩
theorem pa_cons(ha:PE X e te)(hr:PA X es t)(hs:starEach (e::es) X.env=(false,eval e X.env)::starEach es X.env:=by rfl):PA X (e::es) (tCons te t):=by
 intro pos pins s σ H Q I h
 rw[hs]
 show wpAny _ _ (spliced ((false,eval e X.env)::backTo pos (starEach es X.env))) _ _ s
 refine Calls.spliced_cons (thn (ha pins s σ H _ I h) fun u s1 ⟨x,H1,I1,r1,q1⟩=>?_)
 exact thn (hr pos pins s1 σ H1 _ I1 q1) fun us s2 ⟨xs,H2,I2,r2,q2⟩=>⟨x::xs,H2,I2,.cons r1 r2,q2⟩
def tTup(t:TA):TE:=fun σ H Q=>t σ H fun xs H1=>xs.length≤sizeLine∧∀p,H1 p=none->Q (.ref p) (upd H1 p (.tup xs))
def tLst(t:TA):TE:=fun σ H Q=>t σ H fun xs H1=>xs.length≤sizeLine∧∀p,H1 p=none->Q (.ref p) (upd H1 p (.lst xs))
theorem pe_tup{x1}(h:PA X es t):PE X (.Tuple es x1 pos) (tTup t):=by
 intro pins s σ H Q I hq
 refine wpAny_Tuple_spliced (thn (h pos pins s σ H _ I hq) fun us s1 ⟨xs,H1,I1,r,z,q⟩=>⟨by rw[←r.length];exact z,?_⟩)
 have hf:H1 s1.heap.objs.size=none:=I1.hok.fresh (Nat.le_refl _)
 refine⟨.ref s1.heap.objs.size,upd H1 s1.heap.objs.size (.tup xs),I1.laid (t':=s1.toks) (fun b u e=>Heap.get?_push_of_some _ e) (Nat.le_refl _) ?_,rfl,q _ hf⟩
 exact⟨z,us,r,⟨_,Heap.get?_push_size _ rfl,rfl,_,rfl⟩⟩
theorem pe_lst(h:PA X es t):PE X (.List es pos) (tLst t):=by
 intro pins s σ H Q I hq
 refine wpAny_List_spliced (thn (h pos pins s σ H _ I hq) fun us s1 ⟨xs,H1,I1,r,z,q⟩=>⟨by rw[←r.length];exact z,?_⟩)
 have hf:H1 s1.heap.objs.size=none:=I1.hok.fresh (Nat.le_refl _)
 refine⟨.ref s1.heap.objs.size,upd H1 s1.heap.objs.size (.lst xs),I1.laid (t':=s1.toks) (fun b u e=>Heap.get?_push_of_some _ e) (Nat.le_refl _) ?_,rfl,q _ hf⟩
 exact⟨z,us,0,r,Heap.get?_push_size _ rfl⟩
end
abbrev Sp:=List V->Hp->VK->XK->Prop
abbrev CXT:=List Env->Hp->Shared->XK->Value->Shared->Prop
structure Env0(P:Program)(w:World)(K:PySem.W.Frag)(mg:Str->Option Value)(base:Heap)(A:Around)(outer:List Env)(s:Shared)(H:Hp):Prop where
 frames:A.frames=some outer
 mod:Mod K mg base
 bs:∀b o,base.get? b=some o->s.heap.get? b=some o∧H b=none
 bsz:base.objs.size≤s.heap.objs.size
 funs:s.heap.FunFrames base outer
 frf:∀b∈frs outer,H b=none
 hok:HOk P w H s.heap
 bare:AllBare s.gens
def CE(outer:List Env)(P:Program)(w:World)(H:Hp)(s:Shared)(Q:VK)(u:Value)(s':Shared):Prop:=
 ∃v H',s'.os=s.os∧AllBare s'.gens∧Un (frs outer) [] H H' s.heap s'.heap∧HOk P w H' s'.heap∧RelV v u∧Q v H'
def CR(CX:CXT)(outer:List Env)(P:Program)(w:World)(H:Hp)(s:Shared)(Q:VK)(E:XK)(r:Result)(s':Shared):Prop:=
 match r with
 |.ok (.ret u)=>CE outer P w H s Q u s'
 |.ok _=>False
 |.error e=>CX outer H s E e s'
structure FnOk(P:Program)(w:World)(K:PySem.W.Frag)(mg:Str->Option Value)(base:Heap)(CX:CXT)(k:Nat)(f:Addr)(fd:FuncData)(ps:List Str)(sp:Sp):Prop where
 len:∀vs H Q E,sp vs H Q E->vs.length=ps.length
 run:∀(A:Around) (outer:List Env) (s:Shared) (H:Hp) (args:Args) (us:List Value) (vs:List V) (Q:VK) (E:XK),Room k A->Env0 P w K mg base A outer s H->BindsTo s fd args (ps.zip us)->Vals vs us->sp vs H Q E->
  codeAny (model P w) A (.call (.ref f) args) (CR CX outer P w H s Q E) s
theorem FnOk.mono{P:Program}{w:World}{K:PySem.W.Frag}{mg:Str->Option Value}{base:Heap}{CX:CXT}{j k:Nat}{f:Addr}{fd:FuncData}{ps:List Str}{sp:Sp}(F:FnOk P w K mg base CX j f fd ps sp)(h:j≤k) :
  FnOk P w K mg base CX k f fd ps sp:=⟨F.len,fun A outer s H args us vs Q E hr=>F.run A outer s H args us vs Q E (hr.mono h)⟩
theorem FnOk.imp{P:Program}{w:World}{K:PySem.W.Frag}{mg:Str->Option Value}{base:Heap}{CX:CXT}{k:Nat}{f:Addr}{fd:FuncData}{ps:List Str}{sp sp':Sp}(F:FnOk P w K mg base CX k f fd ps sp)
  (h:∀vs H Q E,sp' vs H Q E->sp vs H Q E):FnOk P w K mg base CX k f fd ps sp':=
 ⟨fun vs H Q E q=>F.len vs H Q E (h _ _ _ _ q),fun A outer s H args us vs Q E hr he hb hv hs=>F.run A outer s H args us vs Q E hr he hb hv (h _ _ _ _ hs)⟩
section
variable{X:Cx}{pins:List (Addr×Obj)}{σ:St}{H:Hp}{s s':Shared}
theorem Inv.env0(I:Inv X pins σ H s):Env0 X.prog X.w X.K X.mg X.base X.A X.stack s H:=
 ⟨I.ok.frames,I.ok.mod,I.bs,Nat.le_trans I.ok.bsz I.sz,I.stack,I.stkFree,I.hok,I.bare⟩
theorem Inv.after(I:Inv X pins σ H s)(h:CE X.stack X.prog X.w H s Q u s'):EP X pins σ Q u s':=by
 obtain⟨v,H',os,bare,un,hok,r,q⟩:=h
 obtain⟨hh,g,d,t,os'⟩:=s'
 obtain rfl:os'=s.os:=os
 exact⟨v,H',I.call (h':=hh) (g':=g) (d':=d) (t':=t) (ch:=[]) un hok bare (fun b z=>absurd z (by simp)),r,q⟩
end
def tCall(sp:Sp)(dvs:List V)(E:XK)(t:TA):TE:=fun σ H Q=>t σ H fun vs H1=>sp (vs++dvs) H1 Q E
def Binds(K:PySem.W.Frag)(fd:FuncData)(ps:List Str)(ds:List Value):Prop:=
 ∀(s:Shared) (us:List Value),K.In s.heap->(us++ds).length=ps.length->BindsTo s fd ⟨us,[]⟩ (ps.zip (us++ds))
theorem Binds.all{K:PySem.W.Frag}{fd:FuncData}{ps:List Str}(h:∀us:List Value,us.length=ps.length->bindArgs fd ⟨us,[]⟩=pure (ps.zip us)):Binds K fd ps []:=fun s us _ hl=>by
 rw[List.append_nil] at hl ⊢
 exact .of_eq (h us hl)
def Passes(CX:CXT)(X:Cx)(E:XK):Prop:=∀(pins:List (Addr×Obj)) (σ:St) (H:Hp) (s:Shared) (e:Value) (s':Shared),Inv X pins σ H s->CX X.stack H s E e s'->X.xe e s'
section
variable{X:Cx}{CX:CXT}{k:Nat}{f C:Addr}{fd:FuncData}{ps:List Str}{sp:Sp}{dvs:List V}{ds:List Value}{E:XK}{x m:Str}{p pos apos:Pos}{e o:Expr}{es:List Expr}{ta:TE}{t:TA}
theorem run_fn (F:FnOk X.prog X.w X.K X.mg X.base CX k f fd ps sp) (hr:Room k X.A) (hb:Binds X.K fd ps ds) (hd:Vals dvs ds) (hx:Passes CX X E)
  (I:Inv X pins σ H s) (r:Vals vs us) (h:sp (vs++dvs) H Q E):wpAny (model X.prog X.w) X.A (call (.ref f) us) (EP X pins σ Q) X.xe s:=by
 have r2:Vals (vs++dvs) (us++ds):=r.append hd
 have hl:(us++ds).length=ps.length:=by rw[←r2.length];exact F.len _ _ _ _ h
 refine wpAny_call (codeAny_mono (F.run X.A X.stack s H ⟨us,[]⟩ (us++ds) (vs++dvs) Q E hr I.env0 (hb s us I.kIn hl) r2 h) fun r s' hq=>?_)
 cases r with
 |error e=>exact hx pins σ H s e s' I hq
 |ok fl=>
   cases fl with
   |ret u=>exact I.after hq
   |next=>exact False.elim hq
   |brk=>exact False.elim hq
   |cont=>exact False.elim hq
theorem pe_call(F:FnOk X.prog X.w X.K X.mg X.base CX k f fd ps sp)(hr:Room k X.A)(hg:Gl X x)(hm:X.mg x=some (.ref f))(hk:PySem.W.keepIn X.K (.ref f)=true)(hb:Binds X.K fd ps ds)(hd:Vals dvs ds)(hx:Passes CX X E)
  (ha:PA X (e::es) t) (hdb:(x==("__debug__":Str))=false:=by decide) (he:starEach (e::es) X.env=(false,eval e X.env)::starEach es X.env:=by rfl) (hpl:(backTo pos (starEach es X.env)).any (·.1)=false:=by rfl) :
  PE X (.Call (.Name x p) (e::es) [] pos) (tCall sp dvs E t):=by
 intro pins s σ H Q I h
 refine wpAny_Call_Name_kw (ld_glob I hg hm ?_ hdb)
 refine PySem.W.callWith_K (h₀:=X.base) I.ok.mod.kin hk (thn (ha pos pins s σ H _ I h) fun us s1 ⟨vs,H1,I1,r,q⟩=>⟨I1.kIn,?_⟩) he hpl
 exact run_fn F hr hb hd hx I1 r q
end
structure FnScope(N P:List Str)(sc:Scope):Prop where
 kind:sc.kind=.function
 co:sc.isCoroutine=false
 gen:sc.isGenerator=false
 nd:N.Nodup
 pre:N.take P.length=P
 par:∀x∈P,sc.names.lookup x=some .local∨sc.names.lookup x=some .cell
 nofree:∀y∈sc.names,y.2≠.free
theorem bindL_out {kindOf:Str->Option NameKind}:∀ {binds:List (Str×Value)}{m:Str->Option Value},(∀ v,(x,v)∉binds)->bindL kindOf binds m x=m x
 |[],_,_=>rfl
 | (n,v)::r,m,h=>by
   unfold bindL
   rw[bindL_out fun w hw=>h w (List.mem_cons_of_mem _ hw)]
   split
   ·have:x≠n:=by rintro rfl;exact h v List.mem_cons_self
    simp[this]
   ·rfl
theorem bindC_out {kindOf:Str->Option NameKind}:∀ {binds:List (Str×Value)}{m:Str->Option Value},(∀ v,(x,v)∉binds)->bindC kindOf binds m x=m x
 |[],_,_=>rfl
 | (n,v)::r,m,h=>by
   unfold bindC
   rw[bindC_out fun w hw=>h w (List.mem_cons_of_mem _ hw)]
   split
   ·rfl
   ·have:x≠n:=by rintro rfl;exact h v List.mem_cons_self
    simp[this]
theorem bindL_get {kindOf:Str->Option NameKind}:∀ {P:List Str}{vs:List Value}{i:Nat}{m:Str->Option Value},P.Nodup->P[i]?=some x->vs[i]?=some v->kindOf x=some .local->
  bindL kindOf (P.zip vs) m x=some v
 |[],_,_,_,_,h,_,_=>by simp at h
 |_::_,[],_,_,_,_,h,_=>by simp at h
 |p::P,w::vs,0,m,nd,h1,h2,hk=>by
   simp at h1 h2;subst h1;subst h2
   show bindL kindOf ((p,w)::P.zip vs) m p=_
   unfold bindL
   rw[bindL_out fun v hv=>(List.nodup_cons.mp nd).1 (List.of_mem_zip hv).1,if_pos hk]
   simp
 |p::P,w::vs,i+1,m,nd,h1,h2,hk=>by
   show bindL kindOf ((p,w)::P.zip vs) m x=_
   unfold bindL
   exact bindL_get (i:=i) (List.nodup_cons.mp nd).2 (by simpa using h1) (by simpa using h2) hk
theorem bindC_get {kindOf:Str->Option NameKind}:∀ {P:List Str}{vs:List Value}{i:Nat}{m:Str->Option Value},P.Nodup->P[i]?=some x->vs[i]?=some v->kindOf x≠some .local->
  bindC kindOf (P.zip vs) m x=some v
 |[],_,_,_,_,h,_,_=>by simp at h
 |_::_,[],_,_,_,_,h,_=>by simp at h
 |p::P,w::vs,0,m,nd,h1,h2,hk=>by
   simp at h1 h2;subst h1;subst h2
   show bindC kindOf ((p,w)::P.zip vs) m p=_
   unfold bindC
   rw[bindC_out fun v hv=>(List.nodup_cons.mp nd).1 (List.of_mem_zip hv).1,if_neg hk]
   simp
 |p::P,w::vs,i+1,m,nd,h1,h2,hk=>by
   show bindC kindOf ((p,w)::P.zip vs) m x=_
   unfold bindC
   exact bindC_get (i:=i) (List.nodup_cons.mp nd).2 (by simpa using h1) (by simpa using h2) hk
def start(N:List Str)(vs:List V):St:=vs.map some++List.replicate (N.length-vs.length) none
def cxOf(CX:CXT)(P:Program)(w:World)(K:PySem.W.Frag)(mg:Str->Option Value)(base:Heap)(N:List Str)(qual:Str)(scope:Scope)(f:Addr)(cd:Value)(A:Around)(outer:List Env)(s:Shared)(H:Hp)(E:XK):Cx where
 prog:=P
 w:=w
 K:=K
 mg:=mg
 base:=base
 A:=A.deeper (envOfC qual scope s.heap.objs.size f cd)
 N:=N
 s₀:=s
 H₀:=H
 env:=envOfC qual scope s.heap.objs.size f cd
 outer:=outer
 stack:=envOfC qual scope s.heap.objs.size f cd::outer
 ex:=[]
 calm:=true
 fn:=fun _=>true
 pn:=[]
 xe:=fun e s'=>wpAny (model P w) (A.deeper (envOfC qual scope s.heap.objs.size f cd)) (leaving (envOfC qual scope s.heap.objs.size f cd) e) (fun _ s''=>CX outer H s E e s'') (fun e' s''=>CX outer H s E e' s'') s'
theorem cell_has{sc:Scope}{n:Nat}{x:Str}(h:sc.names.lookup x=some .cell):∃c,(cellsFrom n sc.names []).lookup x=some c:=by
 have q:=PySem.W.cellsFrom_some sc.names n [] (.inl h)
 exact Option.isSome_iff_exists.mp q
theorem inv_start {CX:CXT}{P:Program}{w:World}{K:PySem.W.Frag}{mg:Str->Option Value}{base:Heap}{N ps:List Str}{qual:Str}{scope:Scope}{f:Addr}{cd:Value}{A:Around}{outer:List Env}{s s1:Shared}{H:Hp}{E:XK}{us:List Value}{vs:List V}
  (S:FnScope N ps scope) (hd:A.handled=none) (e0:Env0 P w K mg base A outer s H) (hl:vs.length=ps.length) (r:Vals vs us)
  (x:InCallC s s.heap.objs.size (bindL (envOfC qual scope s.heap.objs.size f cd).kindOf (ps.zip us) fun _=>none) (cellsFrom (s.heap.objs.size+1) scope.names []) (bindC (envOfC qual scope s.heap.objs.size f cd).kindOf (ps.zip us) fun _=>none) s1) :
  Inv (cxOf CX P w K mg base N qual scope f cd A outer s H E) [] (start N vs) H s1:=by
 have hpl:ps.length≤N.length:=by have:=congrArg List.length S.pre;rw[List.length_take] at this;lia
 obtain⟨h1,tk,rfl,hk⟩:=x.done
 have noA:∀b:Addr,b∉(cxOf CX P w K mg base N qual scope f cd A outer s H E).ex:=fun b z=>absurd (show b∈([]:List Addr) from z) (by simp)
 refine⟨⟨e0.mod,S.kind,rfl,rfl,Nat.le_refl _,fun y z c h1 h2=>?_,fun y hy=>?_,fun y c _ h=>?_,fun _=>hd,Around.frames_deeper e0.frames,.inr ⟨rfl,rfl⟩,fun b z=>absurd z (noA b),e0.bs,e0.bsz,fun b _ _=>noA b,fun b z=>absurd z (noA b),e0.funs,e0.frf⟩,
  rfl,e0.bare,Un.kept hk,⟨_,x.toInCall.ns,fun i y v h1 h2 h3=>?_⟩,fun y c h=>⟨_,x.cell y c h⟩,e0.hok.fresh (Nat.le_refl _),fun y c h=>?_,fun p hp=>absurd (show p∈([]:List (Addr×Obj)) from hp) (by simp),e0.hok.kept hk,?_⟩
 ·exact name_of_addr x.apart (PySem.mem_of_lookup h1) (PySem.mem_of_lookup h2)
 ·have hy:scope.names.lookup y=some .cell∨scope.names.lookup y=some .free:=hy
  rcases hy with hy | hy
  ·exact cell_has hy
  ·exact absurd rfl (S.nofree _ (PySem.mem_of_lookup hy))
 ·exact Nat.le_of_lt (x.above y c (PySem.mem_of_lookup h))
 ·have hi:i<vs.length:=by
   unfold start at h2
   by_cases hi:i<vs.length
   ·exact hi
   ·rw[List.getElem?_append_right (by simpa using hi)] at h2
    rw[List.getElem?_replicate] at h2
    split at h2<;>cases h2
  have ha:vs[i]?=some v:=by
   unfold start at h2
   rw[List.getElem?_append_left (by simpa using hi),List.getElem?_map] at h2
   cases e:vs[i]? with
   |none=>rw[e] at h2;cases h2
   |some a=>rw[e] at h2;cases h2;rfl
  obtain⟨u,hu,rv⟩:=r.get ha
  have hp:ps[i]?=some y:=by
   rw[←S.pre,List.getElem?_take_of_lt (by lia)];exact h1
  have ndP:ps.Nodup:=by rw[←S.pre];exact S.nd.sublist (List.take_sublist _ _)
  refine⟨u,rv,?_⟩
  rcases S.par y (List.mem_of_getElem? hp) with k | k
  ·exact .inl ⟨k,bindL_get ndP hp hu k⟩
  ·obtain⟨c,e⟩:=cell_has (n:=s.heap.objs.size+1) k
   refine .inr ⟨.inl k,c,e,?_⟩
   have q:=x.cell y c e
   rw[bindC_get ndP hp hu (by show scope.names.lookup y≠_;rw[k];decide)] at q
   exact q
 ·exact e0.hok.fresh (Nat.le_of_lt (x.above y c (PySem.mem_of_lookup h)))
 ·unfold start
  show _=N.length
  rw[List.length_append,List.length_map,List.length_replicate]
  lia
theorem fn_of {CX:CXT}{P:Program}{w:World}{K:PySem.W.Frag}{mg:Str->Option Value}{base:Heap}{k:Nat}{f:Addr}{name qual:Str}{params:Arguments}{body:List Stmt}{scope:Scope}{dV kV doc pm cdv ct oc:Value}{an od:Option Addr}
  {osl:Array (Option Value)}{N ps:List Str}{sp:Sp} (lk:K.lookup f=some ⟨oc,od,.func (PySem.W.fnOf name qual params body scope dV kV doc pm an cdv ct),osl⟩) (hcd:PySem.W.codeIn K cdv qual=true) (S:FnScope N ps scope)
  (len:∀vs H Q E,sp vs H Q E->vs.length=ps.length)
  (hbody:∀(A:Around) (outer:List Env) (s:Shared) (H:Hp) (vs:List V) (Q:VK) (E:XK),Room k (A.deeper (envOfC qual scope s.heap.objs.size f cdv))->sp vs H Q E->
    ∃t,PSs (cxOf CX P w K mg base N qual scope f cdv A outer s H E) body t∧t { nx:=fun _ H'=>Q .non H',rt:=Q } (start N vs) H) :
  FnOk P w K mg base CX (k+1) f (PySem.W.fnOf name qual params body scope dV kV doc pm an cdv ct) ps sp:=by
 refine⟨len,fun A outer s H args us vs Q E hr e0 hb r hsp=>?_⟩
 have hl:=len _ _ _ _ hsp
 have KX:K.In s.heap:=e0.mod.kin.keeps fun b o e=>(e0.bs b o e).1
 have lim:s.heap.NoLimit:=e0.mod.nolimit.keeps fun b o e=>(e0.bs b o e).1
 have hkind:∀y∈ps.zip us,scope.names.lookup y.1=some .local∨(scope.names.lookup y.1=some .cell∧((cellsFrom (s.heap.objs.size+1) scope.names []).lookup y.1).isSome=true):=fun⟨n,v⟩ hy=>by
  rcases S.par n (List.of_mem_zip hy).1 with q | q
  ·exact .inl q
  ·exact .inr ⟨q,PySem.W.cellsFrom_some _ _ _ (.inl q)⟩
 refine codeAny_call_function hr.depth (KX _ _ lk) rfl S.co S.gen rfl (PySem.W.codeRec_of KX hcd) (hb _ _ _ _ ?_)
 refine wpAny_newFunctionEnv_cells S.kind hkind fun env he s1 x=>?_
 subst he
 refine⟨lim.keeps x.toInCall.keep,codeAny_func ?_⟩
 obtain⟨t,ht,hq⟩:=hbody A outer s H vs Q E (hr.deeper _) hsp
 have I:Inv (cxOf CX P w K mg base N qual scope f cdv A outer s H E) [] (start N vs) H s1:=inv_start S hr.hd e0 hl r x
 refine wpAny_mono (ht [] s1 (start N vs) H _ I hq) (fun fl s' hs=>?_) fun e s' hs=>hs
 have fin:∀{σ':St}{H':Hp}{v:V}{u:Value},Inv (cxOf CX P w K mg base N qual scope f cdv A outer s H E) [] σ' H' s'->RelV v u->Q v H'->CE outer P w H s Q u s':=
  fun {σ' H' v u} J rv q=>⟨v,H',J.os,J.bare,J.base,J.hok,rv,q⟩
 cases fl with
 |ret u=>
   obtain⟨v,σ',H',J,rv,q⟩:=hs
   exact fin J rv q
 |next=>
   obtain⟨σ',H',J,q⟩:=hs
   exact fin (v:=V.non) (u:=Value.none) J rfl q
 |brk=>
   obtain⟨_,_,_,q⟩:=hs
   exact False.elim q
 |cont=>
   obtain⟨_,_,_,q⟩:=hs
   exact False.elim q
open PySem PySem.Spec PyProof.Rows
section
variable{X:Cx}{x:Str}{p pos:Pos}{e:Expr}{es:List Expr}{t:TA}{id T:String}{r:List V->Hp->VK->Prop}
def tCB(r:List V->Hp->VK->Prop)(t:TA):TE:=fun σ H Q=>t σ H fun vs H1=>r vs H1 Q
theorem pe_callB(hc:CallR X (.builtin id) r)(hg:Gl X x)(hm:X.mg x=none)(hv:bootBuiltins x=some (.builtin id))(ha:PA X (e::es) t)(hn:x≠"__name__":=by decide)(hdb:(x==("__debug__":Str))=false:=by decide)
  (he:starEach (e::es) X.env=(false,eval e X.env)::starEach es X.env:=by rfl) (hpl:(backTo pos (starEach es X.env)).any (·.1)=false:=by rfl):PE X (.Call (.Name x p) (e::es) [] pos) (tCB r t):=by
 intro pins s σ H Q I h
 refine wpAny_Call_Name_kw (ld_blt I hg hm hv ?_ hn hdb)
 exact PyProof.Rows.callWith_builtin1 (thn (ha pos pins s σ H _ I h) fun us s1 ⟨vs,H1,I1,r1,q1⟩=>hc pins s1 σ H1 vs us Q I1 r1 q1) he hpl
theorem pe_callTy(hc:CallR X (.type T) r)(hg:Gl X x)(hm:X.mg x=none)(hv:bootBuiltins x=some (.type T))(ha:PA X (e::es) t)(hn:x≠"__name__":=by decide)(hdb:(x==("__debug__":Str))=false:=by decide)
  (he:starEach (e::es) X.env=(false,eval e X.env)::starEach es X.env:=by rfl) (hpl:(backTo pos (starEach es X.env)).any (·.1)=false:=by rfl):PE X (.Call (.Name x p) (e::es) [] pos) (tCB r t):=by
 intro pins s σ H Q I h
 refine wpAny_Call_Name_kw (ld_blt I hg hm hv ?_ hn hdb)
 exact PyProof.Rows.callWith_type1 (thn (ha pos pins s σ H _ I h) fun us s1 ⟨vs,H1,I1,r1,q1⟩=>hc pins s1 σ H1 vs us Q I1 r1 q1) he hpl
end
end L2
namespace HT
open PySem PyProof.Rows
section
open PySem.SeqAt
open PySem.AutoSeq1 (wpAny_loadPart')
open PySem.MeetsSeq PySem.MeetsSeq2 PySem.MeetsSeq3
end
section
variable{prog:Program}{w:World}{A:Around}{E:Value->Shared->Prop}{s:Shared}
theorem cat_tup (ht:IsTup s.heap t vs.toArray) (hb:IsTup s.heap b ws.toArray) (hv:vs≠[])
  (h1:ws=[]->Q (.ref t) s) (h2:ws≠[]->Q (.ref s.heap.objs.size) { s with heap:=s.heap.push { cls:=.type "tuple",data:=.seq (vs++ws).toArray } })
  (hsz:vs.length+ws.length≤sizeLine):wpAny (model prog w) A (binaryOp .Add (.ref t) (.ref b)) Q E s:=by
 obtain⟨⟨cls,dd,data,sl⟩,ho,hc,n,hd⟩:=id ht
 obtain⟨⟨cls2,dd2,data2,sl2⟩,ho2,hc2,n2,hd2⟩:=id hb
 simp only at hc hd hc2 hd2
 subst hc hd hc2 hd2
 have e:vs.toArray++ws.toArray=(vs++ws).toArray:=by simp
 by_cases hw:ws=[]
 ·exact concat_meets ⟨_,ho,rfl⟩ ⟨_,ho2,rfl⟩ noFill_tuple_add seq_tuple_add PySem.F.slot_tuple_add PySem.F.entry_tuple_add (PySem.F.args_tuple_add_2 _ _)
   (tuple_addW1 t b vs.toArray ws.toArray n n2 dd dd2 sl sl2 (by simpa using hv) (by simp[hw])) ⟨ho,ho2,h1 hw⟩
 ·refine concat_meets ⟨_,ho,rfl⟩ ⟨_,ho2,rfl⟩ noFill_tuple_add seq_tuple_add PySem.F.slot_tuple_add PySem.F.entry_tuple_add (PySem.F.args_tuple_add_2 _ _)
   (tuple_addW2 t b vs.toArray ws.toArray n n2 dd dd2 sl sl2 (by simpa using hv) (by simpa using hw) (by rw[List.size_toArray,List.size_toArray];exact hsz)) ⟨ho,ho2,?_⟩
  rw[e]
  exact h2 hw
def sIx(n d:Nat):Option Int->Nat
 |none=>d
 |some v=>if v<0 then (v+(n:Int)).toNat else min v.toNat n
theorem sIx_none(n d:Nat):sIx n d none=d:=rfl
theorem sIx_nat(n d k:Nat):sIx n d (some (k:Int))=min k n:=by
 show (if (k:Int)<0 then ((k:Int)+(n:Int)).toNat else min (k:Int).toNat n)=min k n
 rw[if_neg (by lia),Int.toNat_natCast]
theorem sIx_le (n d:Nat) (hd:d≤n) (o:Option Int):sIx n d o≤n:=by
 cases o with
 |none=>exact hd
 |some v=>
   show (if v<0 then (v+(n:Int)).toNat else min v.toNat n)≤n
   by_cases hv:v<0
   ·rw[if_pos hv];lia
   ·rw[if_neg hv];exact Nat.min_le_right _ _
theorem clip_eq(v:Int)(n d:Nat):(if v<0 then max (v+(n:Int)) 0 else min v (n:Int))=((sIx n d (some v):Nat):Int):=by
 show (if v<0 then max (v+(n:Int)) 0 else min v (n:Int))=(((if v<0 then (v+(n:Int)).toNat else min v.toNat n):Nat):Int)
 by_cases hv:v<0
 ·simp only[if_pos hv];lia
 ·simp only[if_neg hv];lia
theorem adjust_gen(lo hi:Option Int)(n:Nat):Builtin.Slice.sliceAdjust lo hi 1 (n:Int)=(((sIx n 0 lo:Nat):Int),((sIx n n hi:Nat):Int)):=by
 have h1:¬ ((1:Int)<0):=by lia
 unfold Builtin.Slice.sliceAdjust
 simp only[h1,if_false]
 refine Prod.ext ?_ ?_
 ·cases lo with
  |none=>rfl
  |some v=>exact clip_eq v n 0
 ·cases hi with
  |none=>rfl
  |some v=>exact clip_eq v n n
theorem places_gen(i j:Nat):Builtin.Slice.slicePlaces (i:Int) (j:Int) 1=j-i:=by
 unfold Builtin.Slice.slicePlaces
 have h1:(1:Int) > 0:=by lia
 simp only[h1,if_true,Int.ediv_one]
 split<;>lia
theorem slicePart_(p:IsPart v o)(h:Q o s):wpAny (model prog w) A (Builtin.Slice.slicePartIndex v) Q E s:=by
 cases p with
 |none=>exact slicePart_none h
 |int i t=>exact slicePart_int h
theorem sliceApplied_gen{lo hi:Option Int}{n:Nat}{Q:Int×Int×Nat->Shared->Prop}(hs:s.heap.IsSliceOf sl vl vu .none)(pl:IsPart vl lo)(pu:IsPart vu hi)
  (h:Q (((sIx n 0 lo:Nat):Int),1,sIx n n hi-sIx n 0 lo) s):wpAny (model prog w) A (Builtin.Slice.sliceApplied (.ref sl) (pure (n:Int))) Q E s:=by
 obtain⟨os,hos,hcs,hds⟩:=id hs
 unfold Builtin.Slice.sliceApplied Builtin.Slice.sliceFields
 refine wpAny_bind (wpAny_bind (wpAny_field hos hds (x:=vl) rfl (wpAny_bind (wpAny_field hos hds (x:=vu) rfl (wpAny_bind (wpAny_field hos hds (x:=.none) rfl (wpAny_pure ?_)))))))
 refine wpAny_bind (slicePart_none ?_)
 show wpAny _ _ (if ((1:Int)==0)=true then _ else _) _ _ s
 rw[if_neg (by decide)]
 refine wpAny_bind (slicePart_ pl (wpAny_bind (slicePart_ pu (wpAny_bind (wpAny_pure ?_)))))
 show wpAny _ _ (match Builtin.Slice.sliceAdjust lo hi 1 (n:Int) with | (lo,hi)=>pure (lo,(1:Int),Builtin.Slice.slicePlaces lo hi 1)) _ _ s
 rw[adjust_gen lo hi n]
 show wpAny _ _ (pure (((sIx n 0 lo:Nat):Int),(1:Int),Builtin.Slice.slicePlaces ((sIx n 0 lo:Nat):Int) ((sIx n n hi:Nat):Int) 1)) _ _ s
 rw[places_gen]
 exact wpAny_pure h
theorem pick_gen(xs:Array Value)(i k:Nat):((List.range k).filterMap fun (m:Nat)=>xs[((i:Int)+(m:Int)*1).toNat]?).toArray=((xs.toList.drop i).take k).toArray:=by
 have e:(fun (m:Nat)=>xs[((i:Int)+(m:Int)*1).toNat]?)=fun m=>xs[i+m]?:=by
  funext m
  have:((i:Int)+(m:Int)*1).toNat=i+m:=by lia
  rw[this]
 rw[e]
 have:=pick_run xs i k
 rw[List.filterMap_map] at this
 have e2:((fun x=>xs[x]?) ∘ fun x=>i+x)=fun m=>xs[i+m]?:=rfl
 rw[e2] at this
 rw[this]
theorem getItem_tuple_cut{items:Array Value}{lo hi:Option Int}{Q:Value->Shared->Prop}(ht:IsTup s.heap t items)(hs:s.heap.IsSliceOf sl vl vu .none)(pl:IsPart vl lo)(pu:IsPart vu hi)
  (hw:¬ (sIx items.size 0 lo=0∧sIx items.size items.size hi=items.size))
  (h:Q (.ref s.heap.objs.size) { s with heap:=s.heap.push { cls:=.type "tuple",data:=.seq ((items.toList.drop (sIx items.size 0 lo)).take (sIx items.size items.size hi-sIx items.size 0 lo)).toArray } })
  (hsz:items.size≤sizeLine):wpAny (model prog w) A (getItem (.ref t) (.ref sl)) Q E s:=by
 have htake:sizeOk (.seq ((items.toList.drop (sIx items.size 0 lo)).take (sIx items.size items.size hi-sIx items.size 0 lo)).toArray):=by
  show ((items.toList.drop (sIx items.size 0 lo)).take (sIx items.size items.size hi-sIx items.size 0 lo)).toArray.size≤sizeLine
  rw[List.size_toArray,List.length_take,List.length_drop,Array.length_toList]
  lia
 have hj:sIx items.size items.size hi≤items.size:=sIx_le _ _ (Nat.le_refl _) hi
 obtain⟨os,hos,hcs,hds⟩:=id hs
 have hTs:s.TypeIs (.ref sl) "slice":=⟨os,hos,hcs⟩
 unfold getItem
 try with_reducible refine wpAny_holding ?_
 first | refine wpAny_bind (wpAny_pure ?_) | skip
 refine wpAny_bind (wpAny_sequenceKey ht.typeIs (by decide) ?_)
 refine wpAny_bind (wpAny_callSpecial?_slot (name:=Str.ofString "__getitem__") ht.typeIs PyProof.Rows.slot_tuple_getitem
  (wpAny_call_entry PyProof.Rows.slot_tuple_getitem ht.typeIs entry_tuple_getitem ?_ (args_tuple_getitem _ _)))
 show wpAny _ _ (Builtin.Tuple.tupleItemsOf (.ref t)>>=_) _ _ s
 refine wpAny_bind (tupleItemsOf_ ht ?_)
 refine wpAny_bind (wpAny_typeOf hTs ?_)
 rw[if_pos (by decide)]
 refine wpAny_bind (sliceApplied_gen hs pl pu ?_)
 have hno:¬ ((((sIx items.size 0 lo:Nat):Int)==0&&(1:Int)==1&&(sIx items.size items.size hi-sIx items.size 0 lo)==items.size)=true):=by
  intro q
  rw[Bool.and_eq_true,Bool.and_eq_true] at q
  have q1:((sIx items.size 0 lo:Nat):Int)=0:=eq_of_beq q.1.1
  have q2:sIx items.size items.size hi-sIx items.size 0 lo=items.size:=eq_of_beq q.2
  exact hw ⟨by lia,by lia⟩
 show wpAny _ _ (if (((sIx items.size 0 lo:Nat):Int)==0&&(1:Int)==1&&(sIx items.size items.size hi-sIx items.size 0 lo)==items.size)=true then _ else _) _ _ s
 rw[if_neg hno,pick_gen]
 first
  |exact wpAny_bind (m:=Builtin.Tuple.tupleExact _) (wpAny_newObj_type (wpAny_pure ⟨_,rfl,wpAny_pure h⟩) htake)
  |exact wpAny_bind (m:=Builtin.Tuple.tupleExact _) (wpAny_newObj_type (wpAny_bind (wpAny_pure (wpAny_pure ⟨_,rfl,wpAny_pure h⟩))) htake)
  |exact wpAny_bind (wpAny_bind (m:=Builtin.Tuple.tupleExact _) (wpAny_newObj_type (wpAny_pure (wpAny_pure ⟨_,rfl,wpAny_pure h⟩)) htake))
  |exact wpAny_bind (wpAny_bind (m:=Builtin.Tuple.tupleExact _) (wpAny_newObj_type (wpAny_pure ⟨_,rfl,wpAny_pure h⟩) htake))
end
end HT
namespace L2
open PySem PySem.Spec PyProof.Rows
abbrev TO:=St->Hp->(Option Int->Hp->Prop)->Prop
def PO (X:Cx) (e:Option Expr) (t:TO):Prop:=
 ∀(pins:List (Addr×Obj)) (s:Shared) (σ:St) (H:Hp) (Q:Option Int->Hp->Prop),Inv X pins σ H s->t σ H Q->
   wpAny (model X.prog X.w) X.A (evalPart e X.env) (fun u s'=>∃o H',Inv X pins σ H' s'∧IsPart u o∧Q o H') X.xe s
def tNoPart:TO:=fun _ H Q=>Q none H
def tPart(t:TE):TO:=fun σ H Q=>t σ H fun x H1=>∃i,x=.int i∧Q (some i) H1
theorem intsAre_of:∀ {us:List Value},Vals (ns.map V.int) us->IntsAre us ns:=by
 induction ns with
 |nil=>intro us r;rw[List.map_nil] at r;cases r;exact .nil
 | cons n ns ih=>
   intro us r
   rw[List.map_cons] at r
   cases r with
   |cons r1 r2=>
     obtain⟨t,e⟩:=r1
     subst e
     exact .cons n t (ih r2)
section
variable{X:Cx}{e:Expr}{te:TE}{lo hi:Option Expr}{tl th:TO}{pos p2:Pos}
theorem po_none:PO X none tNoPart:=by
 intro pins s σ H Q I h
 rw[evalPart_none]
 exact wpAny_pure ⟨none,H,I,.none,h⟩
theorem po_some(h:PE X e te):PO X (some e) (tPart te):=by
 intro pins s σ H Q I hw
 rw[evalPart_some]
 refine thn (h pins s σ H _ I hw) fun u s1 ⟨x,H1,I1,r1,q1⟩=>?_
 obtain⟨i,rfl,q⟩:=q1
 obtain⟨t,rfl⟩:=r1
 exact⟨some i,H1,I1,.int i t,q⟩
def SlR (X:Cx) (r:V->Option Int->Option Int->Hp->VK->Prop):Prop:=
 ∀(pins:List (Addr×Obj)) (s:Shared) (σ:St) (H:Hp) (x:V) (v vl vu:Value) (lo hi:Option Int) (sl:Addr) (Q:VK),Inv X pins σ H s->RelV x v->s.heap.IsSliceOf sl vl vu .none->IsPart vl lo->IsPart vu hi->r x lo hi H Q->
   ∃T id,typeLookup (.type T) "__getitem__"=pure (some (.builtin id))∧s.TypeIs v T∧wpAny (model X.prog X.w) X.A (getItem v (.ref sl)) (EP X pins σ Q) X.xe s
def tSl(r:V->Option Int->Option Int->Hp->VK->Prop)(te:TE)(tl th:TO):TE:=fun σ H Q=>te σ H fun x H1=>tl σ H1 fun l H2=>th σ H2 fun u H3=>r x l u H3 Q
theorem pe_slice(hr:SlR X r)(he:PE X e te)(hl:PO X lo tl)(hu:PO X hi th):PE X (.Subscript e (.Slice lo hi none p2) pos) (tSl r te tl th):=by
 intro pins s σ H Q I h
 refine Subscript_ (thn (he pins s σ H _ I h) fun v s1 ⟨x,H1,I1,r1,q1⟩=>?_)
 refine wpAny_Slice (thn (hl pins s1 σ H1 _ I1 q1) fun vl s2 ⟨l,H2,I2,pl,q2⟩=>thn (hu pins s2 σ H2 _ I2 q2) fun vu s3 ⟨u,H3,I3,pu,q3⟩=>?_)
 rw[evalPart_none]
 refine wpAny_pure ?_
 have I4:Inv X pins σ H3 { s3 with heap:=s3.heap.push { cls:=.type "slice",data:=.fields #[vl,vu,.none] } }:=I3.kept (t':=s3.toks) fun b ob q=>Heap.get?_push_of_some _ q
 obtain⟨T,id,hT,ht,hg⟩:=hr pins { s3 with heap:=s3.heap.push { cls:=.type "slice",data:=.fields #[vl,vu,.none] } } σ H3 x v vl vu l u s3.heap.objs.size Q I4 r1 (Heap.IsSliceOf.new ..) pl pu q3
 show wpAny (model X.prog X.w) X.A (subscriptTail e (.Slice lo hi none p2) v (.ref s3.heap.objs.size)) (EP X pins σ Q) X.xe { s3 with heap:=s3.heap.push { cls:=.type "slice",data:=.fields #[vl,vu,.none] } }
 exact tail_any (ops:=[.ref s3.heap.objs.size,v]) ht hT hg (by with_unfolding_all rfl)
def cutV(xs:List V)(lo hi:Option Int):List V:=(xs.drop (HT.sIx xs.length 0 lo)).take (HT.sIx xs.length xs.length hi-HT.sIx xs.length 0 lo)
theorem cutV_length(xs:List V)(lo hi:Option Int):(cutV xs lo hi).length≤xs.length:=by
 unfold cutV
 rw[List.length_take,List.length_drop]
 lia
def rSlT(K:PySem.W.Frag):V->Option Int->Option Int->Hp->VK->Prop:=fun x lo hi H Q=>∃a xs,x=.ref a∧SqT K H a xs ∧
 ¬ (HT.sIx xs.length 0 lo=0∧HT.sIx xs.length xs.length hi=xs.length)∧∀p,H p=none->Q (.ref p) (upd H p (.tup (cutV xs lo hi)))
theorem sl_tup:SlR X (rSlT X.K):=by
 intro pins s σ H x v vl vu lo hi sl Q I rx hs pl pu h
 obtain⟨a,xs,rfl,hx,hw,q⟩:=h
 cases rx
 obtain⟨its,r,ht,hz⟩:=I.tuple hx
 have hlen:its.toArray.size=xs.length:=by rw[List.size_toArray];exact r.length.symm
 refine⟨"tuple",_,PyProof.Rows.slot_tuple_getitem.lookup,ht.typeIs,?_⟩
 refine HT.getItem_tuple_cut ht hs pl pu (by rw[hlen];exact hw) ?_ (by rw[hlen];exact hz)
 rw[hlen]
 refine⟨.ref s.heap.objs.size,_,I.laid (t':=s.toks) (o:=.tup (cutV xs lo hi)) (fun b ob q=>Heap.get?_push_of_some _ q) (Nat.le_refl _) ?_,rfl,q _ (I.hok.fresh (Nat.le_refl _))⟩
 exact⟨Nat.le_trans (cutV_length xs lo hi) hz,_,(r.drop (HT.sIx xs.length 0 lo)).take (HT.sIx xs.length xs.length hi-HT.sIx xs.length 0 lo),IsTup.new _ _⟩
def rCatT(K:PySem.W.Frag):R2:=fun x y H Q=>∃a b xs ys,x=.ref a∧y=.ref b∧SqT K H a xs∧SqT K H b ys∧xs≠[]∧xs.length+ys.length≤sizeLine ∧
 (ys=[]->Q (.ref a) H)∧(ys≠[]->∀p,H p=none->Q (.ref p) (upd H p (.tup (xs++ys))))
theorem Vals.nil_iff(r:Vals xs us):us=[] ↔ xs=[]:=by
 cases r with
 |nil=>simp
 |cons _ _=>simp
theorem op_catT:OpR X (binaryOp .Add) (rCatT X.K):=by
 intro pins s σ H x y v u Q I rx ry h
 obtain⟨a,b,xs,ys,rfl,rfl,ha,hb,hx,hz,q1,q2⟩:=h
 cases rx
 cases ry
 obtain⟨its,r1,p1,_⟩:=I.tuple ha
 obtain⟨its2,r2,p2,_⟩:=I.tuple hb
 refine HT.cat_tup p1 p2 (fun z=>hx (r1.nil_iff.mp z)) (fun z=>⟨.ref a,H,I,rfl,q1 (r2.nil_iff.mp z)⟩) (fun z=>?_) (by rw[←r1.length,←r2.length];exact hz)
 refine⟨.ref s.heap.objs.size,_,I.laid (t':=s.toks) (o:=.tup (xs++ys)) (fun b ob q=>Heap.get?_push_of_some _ q) (Nat.le_refl _) ?_,rfl,q2 (fun w=>z (r2.nil_iff.mpr w)) _ (I.hok.fresh (Nat.le_refl _))⟩
 exact⟨by rw[List.length_append];exact hz,_,r1.append r2,IsTup.new _ _⟩
end
open PySem PySem.Spec PyProof.Rows
def ixN(n:Nat)(i:Int):Option Nat:=if 0≤i then (if i<n then some i.toNat else none) else if -(n:Int)≤i then some (i+n).toNat else none
def atI{α:Type}(xs:List α)(i:Int):Option α:=(ixN xs.length i).bind fun j=>xs[j]?
theorem ixN_seq (h:ixN n i=some j):seqIndex? i n=some j∧j<n∧-(n:Int)≤i∧i<n:=by
 unfold ixN at h
 by_cases h0:0≤i
 ·rw[if_pos h0] at h
  by_cases h1:i<n
  ·rw[if_pos h1] at h
   have e:i.toNat=j:=Option.some.inj h
   exact⟨by rw[seqIndex_of h0 h1,e],by lia,by lia,h1⟩
  ·rw[if_neg h1] at h;cases h
 ·rw[if_neg h0] at h
  by_cases h1:-(n:Int)≤i
  ·rw[if_pos h1] at h
   have e:(i+n).toNat=j:=Option.some.inj h
   exact⟨by rw[seqIndex_neg (by lia) h1,e],by lia,h1,by lia⟩
  ·rw[if_neg h1] at h;cases h
theorem atI_get (h:atI xs i=some v):∃ j,seqIndex? i xs.length=some j∧xs[j]?=some v∧j<xs.length∧-(xs.length:Int)≤i∧i<xs.length:=by
 unfold atI at h
 cases e:ixN xs.length i with
 |none=>rw[e] at h;cases h
 |some j=>
   rw[e] at h
   obtain⟨h1,h2,h3,h4⟩:=ixN_seq e
   exact⟨j,h1,h,h2,h3,h4⟩
def PlainIx(b:Expr):Prop:=∀o i,subscripted b false o i=operate [o,i] (getItem o i)
def IxR (X:Cx) (r:R2):Prop:=
 ∀(value slice:Expr) (pins:List (Addr×Obj)) (s:Shared) (σ:St) (H:Hp) (x y:V) (v u:Value) (Q:VK),Inv X pins σ H s->RelV x v->RelV y u->r x y H Q->
   subscripted slice false v u=operate [v,u] (getItem v u)->wpAny (model X.prog X.w) X.A (subscriptTail value slice v u) (EP X pins σ Q) X.xe s
def MtR (X:Cx) (id:String) (r:V->List V->Hp->VK->Prop):Prop:=
 ∀(pins:List (Addr×Obj)) (s:Shared) (σ:St) (H:Hp) (x:V) (xs:List V) (v:Value) (us:List Value) (Q:VK),Inv X pins σ H s->RelV x v->Vals xs us->r x xs H Q->
   wpAny (model X.prog X.w) X.A (call (.builtin id) (v::us)) (EP X pins σ Q) X.xe s
section
variable{X:Cx}{a b:Expr}{ta tb:TE}{pos:Pos}
theorem pe_ix(hr:IxR X r)(ha:PE X a ta)(hb:PE X b tb)(hs:PlainIx b):PE X (.Subscript a b pos) (tOp r ta tb):=by
 intro pins s σ H Q I h
 exact Subscript_ (binT ha hb I h fun v u s2 x y H2 I2 rx ry q=>hr a b pins s2 σ H2 x y v u Q I2 rx ry q (hs _ _))
def rIxL(K:PySem.W.Frag):R2:=fun x y H Q=>∃p xs i v,x=.ref p∧y=.int i∧SqL K H p xs∧atI xs i=some v∧Q v H
def rIxT(K:PySem.W.Frag):R2:=fun x y H Q=>∃p xs i v,x=.ref p∧y=.int i∧SqT K H p xs∧atI xs i=some v∧Q v H
theorem ix_list:IxR X (rIxL X.K):=by
 intro value slice pins s σ H x y v u Q I rx ry h hs
 obtain⟨p,xs,i,z,rfl,rfl,hq,he,q⟩:=h
 cases rx
 obtain⟨t,rfl⟩:=ry
 obtain⟨its,r,pl,hz⟩:=I.list hq
 obtain⟨j,h1,h2,h3,h4,h5⟩:=atI_get he
 obtain⟨w,ew,rw'⟩:=r.get h2
 have hl:=r.length
 have hn:=line63
 have fin:EP X pins σ Q w s:=⟨z,H,I,rw',q⟩
 by_cases h0:0≤i
 ·have hj:i.toNat=j:=by
   rw[seqIndex_of h0 h5] at h1
   exact Option.some.inj h1
  exact item_listR pl.isList h0 (by lia) (by rw[hj];simpa using ew) fin hs
 ·have hj:(i+(its.toArray.size:Int)).toNat=j:=by
   rw[seqIndex_neg (by lia) h4] at h1
   rw[List.size_toArray,←hl]
   exact Option.some.inj h1
  exact subscriptTail_builtinR (x:=w) pl.isList.typeIs slot_list_getitem.lookup
   (wpAny_getItem_list_neg (Q:=fun r s'=>r=w∧EP X pins σ Q r s') pl.isList (by lia) (by rw[List.size_toArray]<;>lia) (by lia) (by rw[hj];simpa using ew) ⟨rfl,fin⟩) hs
theorem ix_tup:IxR X (rIxT X.K):=by
 intro value slice pins s σ H x y v u Q I rx ry h hs
 obtain⟨p,xs,i,z,rfl,rfl,hq,he,q⟩:=h
 cases rx
 obtain⟨t,rfl⟩:=ry
 obtain⟨its,r,pl,hz⟩:=I.tuple hq
 obtain⟨j,h1,h2,h3,h4,h5⟩:=atI_get he
 obtain⟨w,ew,rw'⟩:=r.get h2
 have hl:=r.length
 have hn:=line63
 have fin:EP X pins σ Q w s:=⟨z,H,I,rw',q⟩
 exact subscriptTail_builtinR (x:=w) pl.typeIs slot_tuple_getitem.lookup
  (getItem_tuple (j:=j) (Q:=fun r s'=>r=w∧EP X pins σ Q r s') pl (by lia) (by lia) (by rw[List.size_toArray,←hl];exact h1) (by simpa using ew) ⟨rfl,fin⟩) hs
theorem mapSeq_set(its:List Value)(n j:Nat)(u:Value):Obj.mapSeq (·.setIfInBounds j u) { cls:=.type "list",data:=.seq its.toArray n }={ cls:=.type "list",data:=.seq (its.set j u).toArray n }:=by
 simp[Obj.mapSeq]
theorem Inv.lst(I:Inv X pins σ H s)(h:H p=some (.lst xs)) :
  ∃(its:List Value) (n:Nat),Vals xs its∧s.heap.get? p=some { cls:=.type "list",data:=.seq its.toArray n }∧xs.length≤sizeLine:=by
 obtain⟨z,its,n,r,e⟩:=I.hok p _ h
 exact⟨its,n,r,e,z⟩
theorem Inv.lstUpd{pins:List (Addr×Obj)}{xs ys:List V}{its its':List Value}{n n':Nat}{f:Obj->Obj}(I:Inv X pins σ H s)(h:H p=some (.lst xs))
  (ho:s.heap.get? p=some { cls:=.type "list",data:=.seq its.toArray n }) (hf:f { cls:=.type "list",data:=.seq its.toArray n }={ cls:=.type "list",data:=.seq its'.toArray n' }) (r:Vals ys its') (hz:ys.length≤sizeLine) (t:Nat) :
  Inv X pins σ (upd H p (.lst ys)) { s with heap:=s.heap.update p f,toks:=t }:=by
 have e:(s.heap.update p f).get? p=some { cls:=.type "list",data:=.seq its'.toArray n' }:=by
  rw[Heap.get?_update_self f ho (by rw[hf]<;>rfl),hf]
 refine I.write (x:=p) (e:=p) (by rw[h];trivial) (.inl rfl) (fun b u hb q=>(Heap.get?_update_other _ _ (Ne.symm hb)).trans q) ⟨_,e⟩ ?_
 exact⟨hz,its',n',r,e⟩
def rSetL:V->V->V->Hp->(Hp->Prop)->Prop:=fun o i v H Q=>∃p xs k j,o=.ref p∧i=.int k∧H p=some (.lst xs)∧ixN xs.length k=some j∧Q (upd H p (.lst (xs.set j v)))
theorem set_list:PSet X rSetL:=by
 intro pins s σ H o i v ov iv u Q I ro ri rv h
 obtain⟨p,xs,k,j,rfl,rfl,hp,hj,q⟩:=h
 cases ro
 obtain⟨t,rfl⟩:=ri
 obtain⟨its,n,r,ho,hz⟩:=I.lst hp
 obtain⟨h1,h2,h3,h4⟩:=ixN_seq hj
 have hl:=r.length
 have hn:=line63
 have I':Inv X pins σ (upd H p (.lst (xs.set j v))) { s with heap:=s.heap.update p (Obj.mapSeq (·.setIfInBounds j u)) }:=
  I.lstUpd hp ho (mapSeq_set its n j u) (r.set rv j) (by rw[List.length_set];exact hz) s.toks
 by_cases h0:0≤k
 ·have hk:k.toNat=j:=by
   rw[seqIndex_of h0 h4] at h1
   exact Option.some.inj h1
  exact PySem.W.ki_setAt ho h0 (by lia) (by rw[List.size_toArray,←hl];exact h4) (by rw[hk];exact⟨_,I',q⟩)
 ·have hk:(k+(its.toArray.size:Int)).toNat=j:=by
   rw[seqIndex_neg (by lia) h3] at h1
   rw[List.size_toArray,←hl]
   exact Option.some.inj h1
  exact PySem.W.ki_setBack ho (by lia) (by rw[List.size_toArray,←hl];exact h3) (by lia) (by rw[hk];exact⟨_,I',q⟩)
theorem slice_bounds (lo hi:Option Int) (n:Nat):(sliceBounds lo hi none n).1=((HT.sIx n 0 lo:Nat):Int)∧(sliceBounds lo hi none n).2.1=((HT.sIx n n hi:Nat):Int)∧(sliceBounds lo hi none n).2.2=1:=by
 refine⟨?_,?_,rfl⟩
 ·cases lo with
  |none=>simp[sliceBounds,HT.sIx]
  |some i=>
    simp only[sliceBounds,HT.sIx,Option.getD_none,show (1:Int) > 0 by decide,if_true]
    by_cases h:i<0
    ·simp only[h,if_true]<;>lia
    ·simp only[h,if_false]<;>lia
 ·cases hi with
  |none=>simp[sliceBounds,HT.sIx]
  |some i=>
    simp only[sliceBounds,HT.sIx,Option.getD_none,show (1:Int) > 0 by decide,if_true]
    by_cases h:i<0
    ·simp only[h,if_true]<;>lia
    ·simp only[h,if_false]<;>lia
theorem slicePick_cut(its:List Value)(lo hi:Option Int):slicePick its.toArray lo hi none=((its.drop (HT.sIx its.length 0 lo)).take (HT.sIx its.length its.length hi-HT.sIx its.length 0 lo)).toArray:=by
 obtain⟨h1,h2,h3⟩:=slice_bounds lo hi its.toArray.size
 unfold slicePick
 rw[h1,h2,h3]
 simp only[sliceRange_one,pick_run,List.size_toArray]<;>rfl
def rSlL(K:PySem.W.Frag):V->Option Int->Option Int->Hp->VK->Prop:=fun x lo hi H Q=>∃a xs,x=.ref a∧SqL K H a xs∧∀p,H p=none->Q (.ref p) (upd H p (.lst (cutV xs lo hi)))
theorem sl_list:SlR X (rSlL X.K):=by
 intro pins s σ H x v vl vu lo hi sl Q I rx hs pl pu h
 obtain⟨a,xs,rfl,hx,q⟩:=h
 cases rx
 obtain⟨its,r,ht,hz⟩:=I.list hx
 have hlen:=r.length
 refine⟨"list",_,slot_list_getitem.lookup,ht.isList.typeIs,?_⟩
 refine wpAny_getItem_list_slice ht.isList hs pl pu .none (by simp) ?_ (by rw[List.size_toArray]<;>lia)
 rw[slicePick_cut,←hlen]
 refine⟨.ref s.heap.objs.size,_,I.laid (t':=s.toks) (o:=.lst (cutV xs lo hi)) (fun b ob q=>Heap.get?_push_of_some _ q) (Nat.le_refl _) ?_,rfl,q _ (I.hok.fresh (Nat.le_refl _))⟩
 exact⟨Nat.le_trans (cutV_length xs lo hi) hz,_,0,(r.drop (HT.sIx xs.length 0 lo)).take (HT.sIx xs.length xs.length hi-HT.sIx xs.length 0 lo),Heap.get?_push_size _ rfl⟩
theorem call_len_seq:CallR X (.builtin "len") (fun xs H Q=>∃p ys,xs=[.ref p]∧(SqL X.K H p ys∨SqT X.K H p ys)∧Q (.int ys.length) H):=by
 intro pins s σ H xs us Q I r h
 obtain⟨p,ys,rfl,hq,q⟩:=h
 obtain⟨u,rfl,rx⟩:=vals1 r
 cases rx
 have hn:=line63
 rcases hq with hq | hq
 ·obtain⟨its,r',pl,hz⟩:=I.list hq
  have hlen:=r'.length
  exact Calls.call_len_list pl.isList (by simp only[List.size_toArray]<;>lia) ⟨.int ys.length,H,I.tok _,⟨s.toks+1,by rw[List.size_toArray,hlen]⟩,q⟩
 ·obtain⟨its,r',pl,hz⟩:=I.tuple hq
  have hlen:=r'.length
  exact len_tuple pl (by simp only[List.size_toArray]<;>lia) ⟨.int ys.length,H,I.tok _,⟨s.toks+1,by rw[List.size_toArray,hlen]⟩,q⟩
theorem call_len_str:CallR X (.builtin "len") (fun xs H Q=>∃z,xs=[.str z]∧z.length≤sizeLine∧Q (.int z.length) H):=by
 intro pins s σ H xs us Q I r h
 obtain⟨z,rfl,hz,q⟩:=h
 obtain⟨u,rfl,t,rfl⟩:=vals1 r
 have hn:=line63
 exact len_str (by lia) ⟨.int z.length,H,I.tok _,⟨_,rfl⟩,q⟩
theorem CallR.or(h:CallR X f r)(h':CallR X f r'):CallR X f (fun xs H Q=>r xs H Q∨r' xs H Q):=by
 intro pins s σ H xs us Q I rs q
 rcases q with q | q
 ·exact h pins s σ H xs us Q I rs q
 ·exact h' pins s σ H xs us Q I rs q
theorem call_list_of:CallR X (.type "list") (fun xs H Q=>∃ p ys,xs=[.ref p]∧(SqL X.K H p ys∨SqT X.K H p ys)∧∀ l,H l=none->Q (.ref l) (upd H l (.lst ys))):=by
 intro pins s σ H xs us Q I r h
 obtain⟨p,ys,rfl,hq,q⟩:=h
 obtain⟨u,rfl,rx⟩:=vals1 r
 cases rx
 have fin:∀(its:List Value),Vals ys its->ys.length≤sizeLine->∀(h':Heap) (c':Nat),(∀b o',s.heap.get? b=some o'->h'.get? b=some o')->
   h'.get? s.heap.objs.size=some { cls:=.type "list",dict:=none,data:=.seq its.toArray c',slots:=#[] }->EP X pins σ Q (.ref s.heap.objs.size) { s with heap:=h' }:=fun its r' hz h' c' kp e=>
  ⟨.ref s.heap.objs.size,_,I.laid (t':=s.toks) kp (Nat.le_refl _) (show ObjOk X.prog X.w _ h' _ (.lst ys) from⟨hz,its,c',r',e⟩),rfl,q _ (I.hok.fresh (Nat.le_refl _))⟩
 rcases hq with hq | hq
 ·obtain⟨its,r',pl,hz⟩:=I.list hq
  have hlen:=r'.length
  obtain⟨o,ho,hc,n,hd⟩:=pl.isList
  exact call_list_seq p (.inl rfl) ho hc hd (fun h' c' kp e=>fin its r' hz h' c' kp e) (by simp only[List.size_toArray]<;>lia)
 ·obtain⟨its,r',pl,hz⟩:=I.tuple hq
  have hlen:=r'.length
  obtain⟨o,ho,hc,n,hd⟩:=pl
  exact call_list_seq p (.inr rfl) ho hc hd (fun h' c' kp e=>fin its r' hz h' c' kp e) (by simp only[List.size_toArray]<;>lia)
theorem call_tuple_of:CallR X (.type "tuple") (fun xs H Q=>∃ p ys,xs=[.ref p]∧((SqL X.K H p ys∧∀ l,H l=none->Q (.ref l) (upd H l (.tup ys)))∨(SqT X.K H p ys∧Q (.ref p) H))):=by
 intro pins s σ H xs us Q I r h
 obtain⟨p,ys,rfl,h⟩:=h
 obtain⟨u,rfl,rx⟩:=vals1 r
 cases rx
 rcases h with ⟨hq,q⟩ | ⟨hq,q⟩
 ·obtain⟨its,r',pl,hz⟩:=I.list hq
  have hlen:=r'.length
  refine call_tuple_list pl.isList (fun h' kp=>?_) (by simp only[List.size_toArray]<;>lia)
  have I1:Inv X pins σ H { s with heap:=h' }:=I.kept (t':=s.toks) kp
  have I2:Inv X pins σ (upd H h'.objs.size (.tup ys)) { s with heap:=h'.push { cls:=.type "tuple",data:=.seq its.toArray } }:=
   I1.laid (t':=s.toks) (fun b o e=>Heap.get?_push_of_some _ e) (Nat.le_refl _) (show ObjOk X.prog X.w _ _ _ (.tup ys) from⟨hz,its,r',IsTup.new _ _⟩)
  exact⟨.ref h'.objs.size,_,I2,rfl,q _ (I1.hok.fresh (Nat.le_refl _))⟩
 ·obtain⟨its,r',pl,hz⟩:=I.tuple hq
  exact call_tuple_same pl ⟨.ref p,H,I,rfl,q⟩
def tyV (K:PySem.W.Frag) (T:String) (x:V) (H:Hp):Prop:=match x with
 |.str _=>T = "str"
 |.int _=>T = "int"
 |.ref p=>(T = "list"∧∃xs,SqL K H p xs)∨(T = "tuple"∧∃o,K.lookup p=some o∧o.cls=.type "tuple"∧o.dict=none) ∨
   (T = "dict"∧((∃kvs,H p=some (.dK kvs))∨∃kvs,H p=some (.dT kvs)))∨(T = "set"∧∃S n,H p=some (.set S n))
 |_=>False
theorem tyV_is (I:Inv X pins σ H s) (r:RelV x v) (ty:tyV X.K T x H) :
  s.TypeIs v T∧∀a,v=.ref a->∃ob,s.heap.get? a=some ob∧ob.dict=none:=by
 cases x with
 |str z=>
   obtain⟨t,rfl⟩:=r
   cases (show T = "str" from ty)
   exact⟨typeIs_str s z t,fun _ e=>nomatch e⟩
 |int i=>
   obtain⟨t,rfl⟩:=r
   cases (show T = "int" from ty)
   exact⟨typeIs_int s i t,fun _ e=>nomatch e⟩
 | ref p=>
   cases r
   rcases ty with ⟨rfl,xs,hq⟩ | ⟨rfl,o,hk,hc,hd⟩ | ⟨rfl,hk⟩ | ⟨rfl,S,n,hk⟩
   ·obtain⟨its,_,pl,_⟩:=I.list hq
    refine⟨pl.isList.typeIs,fun a e=>?_⟩
    cases e
    obtain⟨o,n,e,c,hd,_⟩:=pl
    exact⟨o,e,hd⟩
   ·refine⟨⟨o,I.kIn p o hk,hc⟩,fun a e=>?_⟩
    cases e
    exact⟨o,I.kIn _ o hk,hd⟩
   ·have z:∃ o,s.heap.get? p=some o∧o.ExactDict:=by
     rcases hk with ⟨kvs,hk⟩ | ⟨kvs,hk⟩
     ·obtain⟨_,_,_,_,o,_,_,e,ex,_⟩:=I.hok p _ hk
      exact⟨o,e,ex⟩
     ·obtain⟨_,_,_,_,o,_,_,e,ex,_⟩:=I.hok p _ hk
      exact⟨o,e,ex⟩
    obtain⟨o,e,ex⟩:=z
    refine⟨⟨o,e,ex.1⟩,fun a e2=>?_⟩
    cases e2
    exact⟨o,e,ex.2.1⟩
   ·obtain⟨o,_,_,_,e,ex,_⟩:=I.hok p _ hk
    refine⟨⟨o,e,ex.1⟩,fun a e2=>?_⟩
    cases e2
    exact⟨o,e,ex.2.1⟩
 |_=>exact False.elim ty
def tBM(K:PySem.W.Frag)(T:String)(r:V->List V->Hp->VK->Prop)(to:TE)(t:TA):TE:=fun σ H Q=>to σ H fun x H1=>tyV K T x H1∧t σ H1 fun xs H2=>r x xs H2 Q
variable{o e:Expr}{es:List Expr}{to:TE}{t:TA}{name:Str}{apos cpos:Pos}{T id:String}{r:V->List V->Hp->VK->Prop}
theorem pe_bm (pa:PlainAttrs T) (slot:Slot T name id) (hty:typeOf (.builtin id)=pure (.type "method_descriptor")) (hm:MtR X id r) (ho:PE X o to) (ha:PA X (e::es) t)
  (hbase:attributeBase o name X.env (eval o X.env)=eval o X.env:=by rfl)
  (hfew:((backTo cpos (starEach (e::es) X.env)).all (fun x=>!x.1)&&(backToKw cpos (keywordEach [] X.env)).all (fun x=>x.1.isSome)
   &&decide ((e::es).length+([]:List Keyword).length+(if ([]:List Keyword).isEmpty then 0 else 1)<30))=true:=by rfl)
  (hline:(apos.endLine==cpos.line)=true:=by rfl) (hs:starEach (e::es) X.env=(false,eval e X.env)::starEach es X.env:=by rfl) (hplain:(backTo cpos (starEach es X.env)).any (·.1)=false:=by rfl) :
  PE X (.Call (.Attribute o name apos) (e::es) [] cpos) (tBM X.K T r to t):=by
 intro pins s σ H Q I h
 refine wpAny_Call_method_late hbase hfew hline rfl (thn (ho pins s σ H _ I h) fun v s1 ⟨x,H1,I1,r1,ty,q1⟩=>?_)
 obtain⟨h1,h2⟩:=tyV_is I1 r1 ty
 refine⟨T,id,pa,slot,hty,h1,h2,?_⟩
 have hA:=ha cpos pins s1 σ H1 _ I1 q1
 rw[hs] at hA ⊢
 refine Calls.callWith_builtin (by show (false || (backTo cpos (starEach es X.env)).any (·.1))=false;rw[hplain]<;>rfl) (Calls.evalArgs_plain ?_)
 exact thn hA fun us s2 ⟨vs,H2,I2,r2,q2⟩=>hm pins s2 σ H2 x vs v us Q I2 r1 r2 q2
end
open PySem PySem.Spec PyProof.Rows
def MtM (X:Cx) (id:String) (r:V->List V->Hp->VK->Prop):Prop:=
 ∀(pins:List (Addr×Obj)) (s:Shared) (σ:St) (H:Hp) (x:V) (xs:List V) (v:Value) (us:List Value) (Q:VK),Inv X pins σ H s->RelV x v->Vals xs us->r x xs H Q->
   wpAny (model X.prog X.w) X.A (call (.builtin id) (v::us)) (EP X pins σ Q) X.xe s
theorem Vals.one:∀{x:V}{us:List Value},Vals [x] us->∃u,us=[u]∧RelV x u
 |_,_,.cons r .nil=>⟨_,rfl,r⟩
theorem Vals.eraseIdx:∀{xs:List V}{us:List Value} (i:Nat),Vals xs us->Vals (xs.eraseIdx i) (us.eraseIdx i)
 |_,_,_,.nil=>.nil
 |_,_,0,.cons _ t=>t
 |_,_,i+1,.cons r t=>.cons r (Vals.eraseIdx i t)
theorem Vals.reverse(h:Vals xs us):Vals xs.reverse us.reverse:=by
 induction h with
 |nil=>exact .nil
 |cons r t ih=>rw[List.reverse_cons,List.reverse_cons];exact Vals.append ih (.cons r .nil)
theorem Vals.rep (h:Vals xs us):∀ k:Nat,Vals (List.replicate k xs).flatten (List.replicate k us).flatten
 |0=>.nil
 |k+1=>by
   rw[List.replicate_succ,List.replicate_succ,List.flatten_cons,List.flatten_cons]
   exact Vals.append h (Vals.rep h k)
theorem len_erase:∀(l:List α) (i:Nat),(l.eraseIdx i).length≤l.length
 |[],_=>Nat.le_refl _
 |_::_,0=>Nat.le_succ _
 |_::r,i+1=>Nat.succ_le_succ (len_erase r i)
theorem foldl_rep (its:List Value):∀ (k:Nat) (acc:List Value),
  List.foldl (fun x1 x2=>x1++x2) acc.toArray (List.replicate k its.toArray)=(acc++(List.replicate k its).flatten).toArray
 |0,acc=>by simp
 | k + 1,acc=>by
   have e:acc.toArray++its.toArray=(acc++its).toArray:=by simp
   have e2:(acc++its)++(List.replicate k its).flatten=acc++(List.replicate (k+1) its).flatten:=by
    rw[List.replicate_succ,List.flatten_cons,List.append_assoc]
   rw[←e2,←foldl_rep its k (acc++its),←e,List.replicate_succ,List.foldl_cons]
section
variable{X:Cx}{pins:List (Addr×Obj)}{σ:St}{H:Hp}{s:Shared}{l b:Addr}{xs ys zs:List V}
theorem Inv.lset{its its':List Value}{n:Nat}{f:Array Value->Array Value}{t':Nat}(I:Inv X pins σ H s)(hH:H l=some (.lst xs))
  (e:s.heap.get? l=some { cls:=.type "list",data:=.seq its.toArray n }) (hf:f its.toArray=its'.toArray) (hv:Vals ys its') (hz:ys.length≤sizeLine) :
  Inv X pins σ (upd H l (.lst ys)) { s with heap:=s.heap.update l (Obj.mapSeq f),toks:=t' }:=by
 have q:=PySem.IsL.update e f
 rw[hf] at q
 refine I.write (x:=l) (e:=l) (by rw[hH];exact trivial) (.inl rfl) (fun b' u hb hu=>(Heap.get?_update_other s.heap (Obj.mapSeq f) (Ne.symm hb)).trans hu) ⟨_,q⟩ ?_
 exact⟨hz,its',_,hv,q⟩
theorem Inv.lnew(I:Inv X pins σ H s)(hv:Vals ys its)(hz:ys.length≤sizeLine) :
  Inv X pins σ (upd H s.heap.objs.size (.lst ys)) { s with heap:=s.heap.push { cls:=.type "list",data:=.seq its.toArray },toks:=t' }:=
 I.laid (fun _ _ q=>Heap.get?_push_of_some _ q) (Nat.le_refl _) ⟨hz,its,0,hv,Heap.get?_push_size _ rfl⟩
theorem Inv.fresh(I:Inv X pins σ H s):H s.heap.objs.size=none:=I.hok.fresh (Nat.le_refl _)
theorem Inv.lstM(I:Inv X pins σ H s)(hH:H l=some (.lst xs)):xs.length≤sizeLine∧∃(its:List Value) (n:Nat),Vals xs its∧xs.length=its.length∧s.heap.get? l=some { cls:=.type "list",data:=.seq its.toArray n }:=by
 obtain⟨z,its,n,r,e⟩:=I.hok l _ hH
 exact⟨z,its,n,r,r.length,e⟩
theorem notLongL{n:Nat}(h:n≤sizeLine):Builtin.List.listTooLong n=false:=by
 unfold Builtin.List.listTooLong
 exact decide_eq_false (by lia)
end
section
variable{X:Cx}
def rAppend:V->List V->Hp->VK->Prop:=fun x vs H Q=>∃l xs y,x=.ref l∧vs=[y]∧H l=some (.lst xs)∧xs.length<sizeLine∧Q .non (upd H l (.lst (xs++[y])))
theorem mt_append:MtM X "list.append" rAppend:=by
 intro pins s σ H x vs v us Q I rx rv h
 obtain⟨l,xs,y,rfl,rfl,hH,hz,q⟩:=h
 cases rx
 obtain⟨u,rfl,ru⟩:=rv.one
 obtain⟨z,its,n,r,hl,e⟩:=I.lstM hH
 refine call_meets F.slot_list_append ⟨_,e,rfl⟩ F.entry_list_append (F.args_list_append_2 _ _) (PySem.list_append l its.toArray n u (by rw[List.size_toArray];lia)) ⟨e,?_⟩
 refine⟨.non,_,I.lset (its':=its++[u]) hH e (by simp) (r.append (.cons ru .nil)) ?_,rfl,q⟩
 rw[List.length_append,List.length_singleton]
 lia
def rExtend:V->List V->Hp->VK->Prop:=fun x vs H Q=>∃l b xs zs,x=.ref l∧vs=[.ref b]∧H l=some (.lst xs)∧H b=some (.lst zs)∧xs.length+zs.length≤sizeLine∧Q .non (upd H l (.lst (xs++zs)))
theorem mt_extend:MtM X "list.extend" rExtend:=by
 intro pins s σ H x vs v us Q I rx rv h
 obtain⟨l,b,xs,zs,rfl,rfl,hH,hB,hz,q⟩:=h
 cases rx
 obtain⟨u,rfl,ru⟩:=rv.one
 cases ru
 obtain⟨z,its,n,r,hl,e⟩:=I.lstM hH
 obtain⟨z2,its2,n2,r2,hl2,e2⟩:=I.lstM hB
 have hsz:its.toArray.size+its2.toArray.size≤sizeLine:=by rw[List.size_toArray,List.size_toArray];lia
 have hlong:¬ (!its.toArray.isEmpty&&Builtin.List.listTooLong (its.toArray.size+its2.toArray.size))=true:=by
  rw[notLongL hsz,Bool.and_false]
  exact Bool.false_ne_true
 refine call_meets F.slot_list_extend ⟨_,e,rfl⟩ F.entry_list_extend (F.args_list_extend_2 _ _)
  (AutoSeq1.list_extend_list_list_0 l its.toArray n b its2.toArray n2 hlong (by rw[List.size_toArray];lia) (by lia)) ⟨e,e2,?_⟩
 refine⟨.non,_,I.lset (its':=its++its2) hH e (by simp) (r.append r2) ?_,rfl,q⟩
 rw[List.length_append]
 lia
def rPopAt:V->List V->Hp->VK->Prop:=fun x vs H Q=>∃l xs i k y,x=.ref l∧vs=[.int i]∧H l=some (.lst xs)∧-(2^63)≤i∧i<2^63∧seqIndex? i xs.length=some k∧xs[k]?=some y∧Q y (upd H l (.lst (xs.eraseIdx k)))
theorem mt_popAt:MtM X "list.pop" rPopAt:=by
 intro pins s σ H x vs v us Q I rx rv h
 obtain⟨l,xs,i,k,y,rfl,rfl,hH,h1,h2,hk,hy,q⟩:=h
 cases rx
 obtain⟨u,rfl,ru⟩:=rv.one
 obtain⟨t,rfl⟩:=ru
 obtain⟨z,its,n,r,hl,e⟩:=I.lstM hH
 obtain⟨w,hw,rw'⟩:=r.get hy
 refine call_meets F.slot_list_pop ⟨_,e,rfl⟩ F.entry_list_pop (F.args_list_pop_2 _ _)
  (MeetsSeq.list_pop_at l its.toArray n i t k w (fitsIndex_both h1 h2) (by rw[List.size_toArray,←hl];exact hk) (by rw[←Array.getElem?_toList];exact hw) (by rw[List.size_toArray];lia)) ⟨e,?_⟩
 refine⟨y,_,I.lset (its':=its.eraseIdx k) hH e ?_ (r.eraseIdx k) ?_,rw',q⟩
 ·show its.toArray.eraseIdxIfInBounds k=(its.eraseIdx k).toArray
  rw[List.eraseIdxIfInBounds_toArray]
 ·have:=len_erase xs k
  lia
def rCat:R2:=fun x y H Q=>∃l b xs zs,x=.ref l∧y=.ref b∧H l=some (.lst xs)∧H b=some (.lst zs)∧xs.length+zs.length≤sizeLine∧∀p,H p=none->Q (.ref p) (upd H p (.lst (xs++zs)))
theorem op_cat:OpR X (binaryOp .Add) rCat:=by
 intro pins s σ H x y v u Q I rx ry h
 obtain⟨l,b,xs,zs,rfl,rfl,hH,hB,hz,q⟩:=h
 cases rx
 cases ry
 obtain⟨z,its,n,r,hl,e⟩:=I.lstM hH
 obtain⟨z2,its2,n2,r2,hl2,e2⟩:=I.lstM hB
 refine PySem.P.add_list e e2 ?_ (by rw[List.size_toArray,List.size_toArray];lia)
 have ea:its.toArray++its2.toArray=(its++its2).toArray:=by simp
 rw[ea]
 exact⟨.ref _,_,I.lnew (t':=s.toks) (r.append r2) (by rw[List.length_append];lia),rfl,q _ I.fresh⟩
def rRep:R2:=fun x y H Q=>∃l k xs,x=.ref l∧y=.int k∧H l=some (.lst xs)∧-(2^63)≤k∧k<2^63∧xs.length*k.toNat≤sizeLine ∧
 ∀p,H p=none->Q (.ref p) (upd H p (.lst (List.replicate k.toNat xs).flatten))
theorem len_rep(xs:List α)(k:Nat):(List.replicate k xs).flatten.length=k*xs.length:=by
 induction k with
 |zero=>simp
 |succ k ih=>rw[List.replicate_succ,List.flatten_cons,List.length_append,ih,Nat.succ_mul,Nat.add_comm]
theorem op_rep:OpR X (binaryOp .Mult) rRep:=by
 intro pins s σ H x y v u Q I rx ry h
 obtain⟨l,k,xs,rfl,rfl,hH,h1,h2,hz,q⟩:=h
 cases rx
 obtain⟨t,rfl⟩:=ry
 obtain⟨z,its,n,r,hl,e⟩:=I.lstM hH
 have hlen:its.toArray.size*k.toNat≤sizeLine:=by rw[List.size_toArray,←hl];exact hz
 have hcap:¬ its.toArray.size*k.toNat > (2^63-1) / 8:=by
  have:(sizeLine:Nat)≤(2^63-1) / 8:=by decide
  lia
 have hfit:¬ (!Builtin.List.listFitsIndex k)=true:=by
  rw[fitsIndex_both h1 h2]
  exact Bool.false_ne_true
 have hlong:¬ Builtin.List.listTooLong (its.toArray.size*k.toNat)=true:=by
  rw[notLongL hlen]
  exact Bool.false_ne_true
 have hnew:List.foldl (fun x1 x2=>x1++x2) #[] (List.replicate (if its.toArray.isEmpty=true then 0 else k.toNat) its.toArray)=(List.replicate k.toNat its).flatten.toArray:=by
  have f0:∀m:Nat,List.foldl (fun x1 x2=>x1++x2) #[] (List.replicate m its.toArray)=(List.replicate m its).flatten.toArray:=fun m=>by
   have:=foldl_rep its m []
   rw[List.nil_append] at this
   exact this
  rw[f0]
  cases its with
  |nil=>simp
  |cons a r'=>rw[if_neg (by simp)]
 refine wpAny_binaryOp_repeat_ref (T := "list") (U := "int") (by decide) ⟨_,e,rfl⟩ (fun s'=>typeIs_int s' k t) noFill_list_mul F.fills_int_mul F.slot_int_rmul repeat_list F.slot_int_index.lookup
  (call_meets F.slot_int_rmul (typeIs_int s k t) F.entry_int_rmul (F.args_int_rmul_2 _ _) (int___rmul___int_list k t l its.toArray n)
    ⟨e,rfl,⟨_,e,rfl⟩,call_meets F.slot_list_mul ⟨_,e,rfl⟩ F.entry_list_mul (F.args_list_mul_2 _ _) (AutoListH.list___mul___list_int_3 l its.toArray n k t hfit hcap hlong) ⟨e,?_⟩⟩)
 rw[hnew]
 exact⟨.ref _,_,I.lnew (t':=s.toks) (r.rep k.toNat) (by rw[len_rep,Nat.mul_comm];exact hz),rfl,q _ I.fresh⟩
end
end L2
namespace Att
open PySem PySem.W PySem.Calls PyProof.Rows
theorem ints_of_wellAll:∀ (ns:List Int) (vs:List Value),WellAll P h vs (ns.map WData.int)->IntsAre vs ns:=by
 intro ns
 induction ns with
 |nil=>
   intro vs w
   rw[List.map_nil] at w
   cases w
   exact .nil
 | cons n ns ih=>
   intro vs w
   rw[List.map_cons] at w
   cases w with
   |cons a b=>
     cases a
     exact .cons _ _ (ih _ b)
theorem script_of {l:OpenLaw}{n:Nat} (hn:l.most=some n) {P:Params}{h:Heap}{args:List WData}{vals:List Value}
  (hpre:l.row.toRowW.claim.pre args=true) (hwl:WellAll P h vals args) :
  ∃a vs ns,vals=[Value.ref a]∧args=[WData.list (ns.map WData.int)]∧h.get? a=some { cls:=.type "list",data:=.seq vs.toArray }∧IntsAre vs ns∧ns.length≤n:=by
 have hsh:WShape.hasAll [] args [.list .int]=true:=(pre_splitW hpre).1
 have hc:l.pre.holds [] { args:=args }=true:=(pre_splitW hpre).2
 obtain⟨d,r,rfl,h1,h2⟩:=hasAllW_cons hsh
 obtain rfl:=hasAllW_nil h2
 obtain⟨xs,rfl,h3⟩:=hasW_list h1
 obtain⟨ns,rfl⟩:=items_int h3
 have hlen:ns.length≤n:=by
  unfold OpenLaw.pre at hc
  have h4:(WTm.not (.lt (.lit (.int (n:Int))) (.len (.arg 0)))).holds [] { args:=[.list (ns.map .int)] }=true:=by
   have h4:=(holds_andW hc).1
   rw[hn] at h4
   exact h4
  have h5:=condW_of h4 (w_not (w_lt w_lit (w_len_list (w_arg rfl))))
  rw[List.length_map] at h5
  refine Nat.le_of_not_lt fun q=>?_
  have q':(n:Int)<((ns.length:Nat):Int):=by lia
  first
   |(rw[decide_eq_true q'] at h5;exact absurd h5 (by decide))
   |(simp at h5;lia)
 cases hwl with
 |cons w1 w2=>
   cases w2
   cases w1 with
   |list ho hall=>exact⟨_,_,ns,rfl,rfl,ho,ints_of_wellAll ns _ hall,hlen⟩
theorem post_true(l:OpenLaw)(args:List WData):l.row.toRowW.claim.post args (.bool true) args=true:=
 postW_of (r:=l.row.toRowW) (X:=(true==true))
  (show WShape.has [] (.bool true) .bool=true by first | rfl | decide | simp[WShape.has,WShape.arms,WShape.armsAll])
  (show (WTm.eq .res (.lit (.bool true))).value [] { args:=args,res:=some (.bool true),after:=args }=some (.bool (true==true)) from w_eq_bool (w_res rfl) w_lit) rfl
theorem attach_call {l:OpenLaw}{n:Nat}{q:Program}{loose:List Str}{XP:(Str->Option Value)->Heap->Prop}{YP:World->Heap->Prop}{d:DefRec}
  (hn:l.most=some n) (hdf:d.params.defaults=[])
  (call:∀(w:World) (s₀ s₁:Shared) (mg mb:Str->Option Value) (fa:Addr) (o:Obj) (pm cd doc:Value) (a:Addr) (vs:List Value) (ns:List Int),
    Ground q loose [] XP w s₀ mg mb s₁.heap->YP w s₁.heap->
    s₁.heap.get? fa=some o->o.data=.func (docDef d.name d.params d.body d.scope pm cd doc)->s₁.heap.CodeRec cd d.name->mg d.name=some (.ref fa)->
    s₁.heap.get? a=some { cls:=.type "list",data:=.seq vs.toArray }->IntsAre vs ns->ns.length≤n->s₁.gens=#[]->
    codeAny (model l.prog w) callerA (.call (.ref fa) ⟨[.ref a],[]⟩) (fun r s'=>r=.ok (.ret (.bool true))∧OldK s₁.heap s'.heap∧s'.os=s₁.os∧AllBare s'.gens) s₁) :
  WalkO q loose XP YP l.row.toRowW d [] (fun f vs=>PySem.call f vs):=by
 intro w s₀ s₁ mg mb G Y fa o pm cd doc dV kV ho hd hcd hD hmg hg args vals as hpre hlay hrd hwl hlo
 obtain rfl:dV=.none:=Dflts.none hD hdf
 obtain rfl:kV=.none:=Dflts.noKw hD
 obtain⟨a,vs,ns,rfl,rfl,hobj,hints,hlen⟩:=script_of hn hpre hwl
 refine enter_call (codeAny_mono (call w s₀ s₁ mg mb fa o pm cd doc a vs ns G Y ho (fd_plain hd) hcd hmg hobj hints hlen hg) fun r s' hq=>?_)
 obtain⟨rfl,h2,h3,h4⟩:=hq
 exact⟨.inl ⟨.bool true,.bool true,[],rfl,fun _=>rfl,.bool true,post_true l _,fun _=>⟨List.Pairwise.nil,fun _ hm=>(nomatch hm)⟩⟩,h2,h3,h4⟩
end Att
namespace L2
open PySem PySem.Spec PyProof.Rows
theorem vals_ints:∀{vs:List Value}{ns:List Int},IntsAre vs ns->Vals (ns.map V.int) vs
 |_,_,.nil=>.nil
 |_,_,.cons n t h=>.cons ⟨t,rfl⟩ (vals_ints h)
def Only(H:Hp):Prop:=∀b,H b=none∨∃o xs,H b=some (.frz o (.lst xs))
theorem law_call {P:Program}{w:World}{K:PySem.W.Frag}{mg mb:Str->Option Value}{CX:CXT}{k:Nat}{fa a:Addr}{fd:FuncData}{x:Str}{sp:Sp}{s₁:Shared}{vs:List Value}{ns:List Int}
  (KX:K.In s₁.heap) (hns:s₁.heap.Ns mainGlobals mg) (hb:s₁.heap.Ns builtinsNs mb) (hbb:∀x:Str,x≠"__name__"->mb x=bootBuiltins x) (hlim:s₁.heap.NoLimit) (hg:s₁.gens=#[])
  (ha:s₁.heap.get? a=some { cls:=.type "list",data:=.seq vs.toArray }) (hi:IntsAre vs ns) (hl:ns.length≤sizeLine) (hr:Room k callerA)
  (F:∀base:Heap,K.In base->base.Ns mainGlobals mg->FnOk P w K mg base CX k fa fd [x] sp) (hbind:∀(s:Shared) (u:Value),BindsTo s fd ⟨[u],[]⟩ [(x,u)])
  (hsp:∀H:Hp,Only H->SqL K H a (ns.map V.int)->sp [.ref a] H (fun v _=>v=.bl true) fun _ _ _=>False)
  (hCX:∀H e s',CX [] H s₁ (fun _ _ _=>False) e s'->False) :
  codeAny (model P w) callerA (.call (.ref fa) ⟨[.ref a],[]⟩) (fun r s'=>r=.ok (.ret (.bool true))∧OldK s₁.heap s'.heap∧s'.os=s₁.os∧AllBare s'.gens) s₁:=by
 have rv:=vals_ints hi
 have lenV:=hi.length
 -- from an abstract heap in which nothing but the script may be tracked
 have core:∀ H:Hp,Only H->SqL K H a (ns.map V.int)->HOk P w H s₁.heap->(∀ b,H b≠none->b=a)->(H a≠none->K.lookup a=none)->
   codeAny (model P w) callerA (.call (.ref fa) ⟨[.ref a],[]⟩) (fun r s'=>r=.ok (.ret (.bool true))∧OldK s₁.heap s'.heap∧s'.os=s₁.os∧AllBare s'.gens) s₁:=by
  intro H hO hS hok hA hK
  have base_of:∀{b:Addr}{o:Obj},s₁.heap.get? b=some o->H b=none->(hidT s₁.heap H).get? b=some o:=fun e n=>hidT_get e n
  have noA:∀ {b:Addr}{o:Obj}{es:Array DictEntry}{ep:Nat},s₁.heap.get? b=some o->o.data=.dict es ep->H b=none:=fun {b o es ep} e d=>by
   cases q:H b with
   |none=>rfl
   |some u=>
     have e':b=a:=hA b (by rw[q];simp)
     subst e'
     rw[ha] at e;cases e
     have d':Data.seq vs.toArray _=Data.dict es ep:=d
     cases d'
  have nsK:∀{b:Addr}{m:Str->Option Value},s₁.heap.Ns b m->(hidT s₁.heap H).Ns b m:=fun {b m} ⟨o,es,ep,e,d,r⟩=>⟨o,es,ep,base_of e (noA e d),d,r⟩
  have hKb:K.In (hidT s₁.heap H):=fun b o e=>base_of (KX b o e) (by
   cases q:H b with
   |none=>rfl
   |some u=>
     have e':b=a:=hA b (by rw[q];simp)
     subst e'
     rw[hK (by rw[q];simp)] at e;cases e)
  have hM:Mod K mg (hidT s₁.heap H):=⟨hKb,nsK hns,⟨mb,nsK hb,hbb⟩,let ⟨mc,h1,h2⟩:=hlim;⟨mc,nsK h1,h2⟩⟩
  have e0:Env0 P w K mg (hidT s₁.heap H) callerA [] s₁ H:=⟨rfl,hM,fun b o e=>of_hidT e,Nat.le_of_eq (hidT_size _ _),trivial,fun b hb=>absurd (show b∈([]:List Addr) from hb) (by simp),hok,.of_eq hg⟩
  refine codeAny_mono ((F _ hKb (nsK hns)).run callerA [] s₁ H ⟨[.ref a],[]⟩ [.ref a] [.ref a] _ _ hr e0 (hbind s₁ (.ref a)) (.cons rfl .nil) (hsp H hO hS)) fun r s' h=>?_
  cases r with
  |error e=>exact (hCX H e s' h).elim
  | ok fl=>
    cases fl with
    |next=>exact False.elim h
    |brk=>exact False.elim h
    |cont=>exact False.elim h
    | ret u=>
      obtain⟨v,H',os,bare,un,hok',r',q⟩:=h
      have q':v=.bl true:=q
      subst q'
      obtain rfl:u=Value.bool true:=r'
      refine⟨rfl,OldK.of_keep fun b o e=>?_,os,bare⟩
      cases q:H b with
      |none=>exact un.keep b o e q (by intro z;exact absurd (show b∈([]:List Addr) from z) (by simp)) (by simp)
      | some u=>
        rcases hO b with z | ⟨ob,xs,z⟩
        ·rw[q] at z;cases z
        ·have z2:=un.frzs b ob _ z
         obtain⟨e1,_⟩:=hok b _ z
         obtain⟨e2,_⟩:=hok' b _ z2
         rw[e] at e1;cases e1
         exact e2
 cases hk:K.lookup a with
 |some o=>
   -- the script is one of the module's own objects
   have e:=KX a o hk
   rw[ha] at e
   cases e
   refine core (fun _=>none) (fun _=>.inl rfl) (.inr ⟨_,vs.toArray,_,hk,rfl,rfl,rfl,by rw[List.size_toArray,lenV];exact hl,by simpa using rv⟩) (fun b u z=>by have z':(none:Option HO)=some u:=z;cases z') (fun b z=>absurd rfl z) fun z=>absurd rfl z
 | none=>
   refine core (fun b=>if b=a then some (.frz { cls:=.type "list",data:=.seq vs.toArray } (.lst (ns.map V.int))) else none) (fun b=>?_) (.inl (.inr ⟨{ cls:=.type "list",data:=.seq vs.toArray },if_pos rfl⟩)) (fun b u z=>?_) (fun b z=>?_) fun _=>hk
   ·by_cases hb:b=a
    ·exact .inr ⟨_,_,if_pos hb⟩
    ·exact .inl (if_neg hb)
   ·by_cases hb:b=a
    ·have z':=(if_pos hb).symm.trans z
     cases z'
     subst hb
     exact⟨ha,by rw[List.length_map];exact hl,vs,_,rv,ha⟩
    ·have z':=(if_neg hb).symm.trans z
     cases z'
   ·by_cases hb:b=a
    ·exact hb
    ·exact absurd (if_neg hb) z
open PySem PySem.Spec PyProof.Rows
theorem walk_of {l:PySem.W.OpenLaw}{n k:Nat}{q:Program}{loose:List Str}{XP:(Str->Option Value)->Heap->Prop}{YP:World->Heap->Prop}{d:DefRec}{K:Params->PySem.W.Frag}{CX:World->CXT}{sp:World->Sp}{x:Str}
  (hn:l.most=some n) (hn2:n≤sizeLine) (hdf:d.params.defaults=[]) (hr:Room k callerA)
  (hY:∀(w:World) (h:Heap),YP w h->(K w.params).In h)
  (F:∀ (w:World) (mg:Str->Option Value) (fa:Addr) (h:Heap),(K w.params).In h->h.Ns mainGlobals mg->mg d.name=some (.ref fa)->
    ∃fd:FuncData,(∀(s:Shared) (u:Value),BindsTo s fd ⟨[u],[]⟩ [(x,u)]) ∧
      ∀base:Heap,(K w.params).In base->base.Ns mainGlobals mg->FnOk l.prog w (K w.params) mg base (CX w) k fa fd [x] (sp w))
  (hsp:∀(w:World) (H:Hp) (a:Addr) (ns:List Int),ns.length≤n->Only H->SqL (K w.params) H a (ns.map V.int)->sp w [.ref a] H (fun v _=>v=.bl true) fun _ _ _=>False)
  (hCX:∀(w:World) (H:Hp) (s:Shared) (e:Value) (s':Shared),CX w [] H s (fun _ _ _=>False) e s'->False) :
  PySem.W.WalkO q loose XP YP l.row.toRowW d [] (fun f vs=>PySem.call f vs):=by
 refine Att.attach_call hn hdf fun w s₀ s₁ mg mb fa o pm cd doc a vs ns G Y ho hd hcd hmg hobj hints hlen hg=>?_
 have KX:=hY w _ Y
 obtain⟨fd,hb,hF⟩:=F w mg fa _ KX G.T.g hmg
 exact law_call KX G.T.g G.T.b G.T.builtins G.T.nolimit hg hobj hints (Nat.le_trans hlen hn2) hr hF hb (fun H hO hS=>hsp w H a ns hlen hO hS) fun H e s'=>hCX w H s₁ e s'
open PySem PySem.Spec PyProof.Rows
def defArgs(s:Stmt):Arguments:=match s with
 |.FunctionDef _ a _ _ _ _ _ _ _ _=>a
 |_=>{ posonlyargs:=[],args:=[],vararg:=none,kwonlyargs:=[],kw_defaults:=[],kwarg:=none,defaults:=[] }
def defBody(s:Stmt):List Stmt:=match s with
 |.FunctionDef _ _ b _ _ _ _ _ _ _=>b
 |_=>[]
def defScope(s:Stmt):Scope:=match s with
 |.FunctionDef _ _ _ _ _ _ sc _ _ _=>sc
 |_=>{ kind:=.function,names:=[],isGenerator:=false,isCoroutine:=false }
abbrev E0:XK:=fun _ _ _=>False
structure Fun(K:PySem.W.Frag)(x qual:Str)(st:Stmt)(f:Addr)(fd:FuncData):Prop where
 ex:∃(oc:Value) (od:Option Addr) (kV doc pm:Value) (an:Option Addr) (cdv ct:Value) (osl:Array (Option Value)),
  fd=PySem.W.fnOf x qual (defArgs st) (defBody st) (defScope st) .none kV doc pm an cdv ct∧K.lookup f=some ⟨oc,od,.func fd,osl⟩∧PySem.W.codeIn K cdv qual=true
 kp:PySem.W.keepIn K (.ref f)=true
section
variable{P:Program}{w:World}{K:PySem.W.Frag}{mg:Str->Option Value}{base:Heap}
theorem Fun.binds{x qual:Str}{st:Stmt}{f:Addr}{fd:FuncData}{ps:List Str}(F:Fun K x qual st f fd)
  (h:∀(kV doc pm:Value) (an:Option Addr) (cdv ct:Value) (us:List Value),us.length=ps.length->bindArgs (PySem.W.fnOf x qual (defArgs st) (defBody st) (defScope st) .none kV doc pm an cdv ct) ⟨us,[]⟩=pure (ps.zip us)):Binds K fd ps []:=by
 obtain⟨oc,od,kV,doc,pm,an,cdv,ct,osl,rfl,lk,hcd⟩:=F.ex
 exact .all (h kV doc pm an cdv ct)
theorem fun_mk{x qual:Str}{st:Stmt}{f:Addr}{oc:Value}{od an:Option Addr}{osl:Array (Option Value)}{kV doc pm cdv ct:Value}(l:K.lookup f=some ⟨oc,od,.func (PySem.W.fnOf x qual (defArgs st) (defBody st) (defScope st) .none kV doc pm an cdv ct),osl⟩)
  (c:PySem.W.codeIn K cdv qual=true) (k:PySem.W.keepIn K (.ref f)=true):Fun K x qual st f (PySem.W.fnOf x qual (defArgs st) (defBody st) (defScope st) .none kV doc pm an cdv ct):=⟨⟨oc,od,kV,doc,pm,an,cdv,ct,osl,rfl,l,c⟩,k⟩
end
theorem iteF{A B:Prop}(h:B):if false=true then A else B:=by
 rw[if_neg Bool.false_ne_true]
 exact h
theorem iteT{A B:Prop}(h:A):if true=true then A else B:=by
 rw[if_pos rfl]
 exact h
def Same(H H':Hp):Prop:=∀b o,H b=some o->H' b=some o
theorem Same.refl(H:Hp):Same H H:=fun _ _ h=>h
mutual
inductive Rep(K:PySem.W.Frag)(H:Hp):V->PyData->Prop
 |non:Rep K H .non .none
 |bl (b:Bool):Rep K H (.bl b) (.bool b)
 |int (i:Int):Rep K H (.int i) (.int i)
 |str (x:Str):Rep K H (.str x) (.str x)
 |lst {a:Addr}{xs:List V}{ds:List PyData}:SqL K H a xs->Reps K H xs ds->Rep K H (.ref a) (.list ds)
 |tup {a:Addr}{xs:List V}{ds:List PyData}:SqT K H a xs->Reps K H xs ds->Rep K H (.ref a) (.tuple ds)
inductive Reps(K:PySem.W.Frag)(H:Hp):List V->List PyData->Prop
 |nil:Reps K H [] []
 |cons {v:V}{d:PyData}{vs:List V}{ds:List PyData}:Rep K H v d->Reps K H vs ds->Reps K H (v::vs) (d::ds)
end
section
variable{X:Cx}{pins:List (Addr×Obj)}{σ:St}{H:Hp}{s:Shared}
mutual
theorem Rep.reads (I:Inv X pins σ H s):∀ {v:V}{d:PyData}{u:Value},Rep X.K H v d->RelV v u->∃ as,Reads s.heap u d as
 |_,_,_,.non,r=>by cases r;exact⟨_,.none⟩
 |_,_,_,.bl b,r=>by cases r;exact⟨_,.bool b⟩
 |_,_,_,.int i,r=>by obtain⟨t,rfl⟩:=r;exact⟨_,.int i t⟩
 |_,_,_,.str x,r=>by obtain⟨t,rfl⟩:=r;exact⟨_,.str x t⟩
 |_,_,_,.lst h hs,r=>by
   cases r
   obtain⟨its,rv,⟨o,n,h1,h2,_,h3⟩,_⟩:=I.list h
   obtain⟨as,ra⟩:=Reps.reads I hs rv
   exact⟨_,.list h1 h2 h3 ra⟩
 |_,_,_,.tup h hs,r=>by
   cases r
   obtain⟨its,rv,⟨o,h1,h2,n,h3⟩,_⟩:=I.tuple h
   obtain⟨as,ra⟩:=Reps.reads I hs rv
   exact⟨_,.tuple h1 h2 h3 ra⟩
theorem Reps.reads (I:Inv X pins σ H s):∀ {vs:List V}{ds:List PyData}{us:List Value},Reps X.K H vs ds->Vals vs us->∃ as,ReadsAll s.heap us ds as
 |_,_,_,.nil,r=>by cases r;exact⟨_,.nil⟩
 | _,_,_,.cons h hs,r=>by
   cases r with
   |cons r1 r2=>
     obtain⟨a1,e1⟩:=Rep.reads I h r1
     obtain⟨a2,e2⟩:=Reps.reads I hs r2
     exact⟨_,.cons e1 e2⟩
end
end
theorem same_new(h:H p=none)(o:HO):Same H (upd H p o):=fun b u q=>by rw[upd_ne (ne_of_none q h)];exact q
section
variable{X:Cx}
def GD(K:PySem.W.Frag)(neg:Bool):R2:=fun x y H Q=>∃da db,Rep K H x da∧Rep K H y db∧da.canLay0=true∧db.canLay0=true∧da.depth≤60∧Q (.bl (if neg then !PyData.eqv da db else PyData.eqv da db)) H
theorem J3(hu:X.A.units+64<cLine):OpR X (compareOp .Eq) (GD X.K false):=by
 intro pins s σ H x y v u Q I rx ry h
 obtain⟨da,db,ha,hb,la,lb,hd,q⟩:=h
 obtain⟨as,ra⟩:=ha.reads I rx
 obtain⟨bs,rb⟩:=hb.reads I ry
 exact PySem.SeqAt.compareEq_reads ra rb la lb (by lia) ⟨.bl _,H,I,rfl,q⟩
theorem J5(hu:X.A.units+64<cLine):OpR X (compareOp .NotEq) (GD X.K true):=by
 intro pins s σ H x y v u Q I rx ry h
 obtain⟨da,db,ha,hb,la,lb,hd,q⟩:=h
 obtain⟨as,ra⟩:=ha.reads I rx
 obtain⟨bs,rb⟩:=hb.reads I ry
 exact PySem.SeqAt.compareNe_reads ra rb la lb (by lia) ⟨.bl _,H,I,rfl,q⟩
def K9(i j:Int):Prop:=IntMulOk i j
theorem Ig:OpR X (binaryOp .Mult) (rI K9 fun i j=>.int (i*j)):=opI fun _ _ _ _ _ _ _ hc q=>mul_int q hc
theorem Fi:CallR X (.builtin "isinstance") (fun xs H Q=>∃x t c b,xs=[x,.ty c]∧TyOf X.K H x t∧PySem.W.kitOne X.K t (.type c)=some b∧Q (.bl b) H):=by
 intro pins s σ H xs us Q I r h
 obtain⟨x,t,c,b,rfl,ty,e,q⟩:=h
 obtain⟨u,w',rfl,r1,r2⟩:=vals2 r
 cases r2
 exact isinst_ok I r1 ty e fun tk=>⟨.bl b,H,I.tok _,rfl,q⟩
end
open PySem PySem.Spec PyProof.Rows
structure DefAt(K:PySem.W.Frag)(mg:Str->Option Value)(x:Str)(st:Stmt):Prop where
 ex:∃f fd,Fun K x x st f fd∧mg x=some (.ref f)
theorem Fz{K:PySem.W.Frag}{h:Heap}{mg:Str->Option Value}{x:Str}{st:Stmt}{f:Addr}{oc:Value}{od an:Option Addr}{osl:Array (Option Value)}{kV doc pm cdv ct:Value}(X:K.In h)(G:h.Ns mainGlobals mg)
  (a:PySem.W.nsIn K mainGlobals x=some (some (.ref f))) (l:K.lookup f=some ⟨oc,od,.func (PySem.W.fnOf x x (defArgs st) (defBody st) (defScope st) .none kV doc pm an cdv ct),osl⟩) (c:PySem.W.codeIn K cdv x=true) (k:PySem.W.keepIn K (.ref f)=true):DefAt K mg x st:=
 ⟨f,_,fun_mk l c k,PySem.W.mg_of X G a⟩
section
variable{X:Cx}{j k:Nat}{ps:List Str}{sp:Sp}{x:Str}{p pos:Pos}{e:Expr}{es:List Expr}{t:TA}
theorem Nq{id:String}{r:List V->Hp->VK->Prop}(hc:CallR X (.builtin id) r)(hm:X.mg x=none)(ha:PA X (e::es) t)(hg:Gl X x:=by rfl)(hv:bootBuiltins x=some (.builtin id):=by decide +kernel)(hn:x≠"__name__":=by decide)(hdb:(x==("__debug__":Str))=false:=by decide)
  (he:starEach (e::es) X.env=(false,eval e X.env)::starEach es X.env:=by rfl) (hpl:(backTo pos (starEach es X.env)).any (·.1)=false:=by rfl) :
  PE X (.Call (.Name x p) (e::es) [] pos) (tCB r t):=pe_callB hc hg hm hv ha hn hdb he hpl
theorem LK(hm:X.mg x=none)(hg:Gl X x:=by rfl)(hv:bootBuiltins x=some (.type T):=by decide +kernel)(hn:x≠"__name__":=by decide)(hdb:(x==("__debug__":Str))=false:=by decide):PE X (.Name x pos) (tC (.ty T)):=
 pe_bltn hg hm hv rfl hn hdb
end
end L2
namespace L2
open PySem PySem.Spec PyProof.Rows
open PySem PySem.Spec PyProof.Rows
theorem ObjOk.there(x:ObjOk P w H h a o):∃u,h.get? a=some u:=by
 induction o with
 |lst xs=>obtain⟨_,_,_,_,e⟩:=x;exact⟨_,e⟩
 |tup xs=>obtain⟨_,_,_,o,e,_⟩:=x;exact⟨_,e⟩
 |dK kvs=>obtain⟨_,_,_,_,o,_,_,e,_⟩:=x;exact⟨_,e⟩
 |dT kvs=>obtain⟨_,_,_,_,o,_,_,e,_⟩:=x;exact⟨_,e⟩
 |set S n=>obtain⟨o,_,_,_,e,_⟩:=x;exact⟨_,e⟩
 |ins C dx fs=>obtain⟨_,_,_,e,_⟩:=x;exact⟨_,e⟩
 |own y=>exact x
 |xd fs=>obtain⟨_,⟨o,es,ep,e,_⟩,_⟩:=x;first | exact⟨_,e⟩ | exact⟨o,es⟩
 |met g y=>exact⟨_,x⟩
 |rng lo hi=>obtain⟨_,_,_,e⟩:=x;exact⟨_,e⟩
 |frz o u ih=>exact⟨_,x.1⟩
 |tbl ps=>exact⟨_,x⟩
 |ext φ=>exact x.2.1
end L2
namespace L2
open PySem PySem.Spec PyProof.Rows
def mO (P:Program) (w:World):CXT:=fun outer H s E e s'=>
 ∃(x:Addr) (C a0:Value) (H':Hp) (B:Heap),e=.ref x∧s'.os=s.os∧AllBare s'.gens∧Un (frs outer) [] H H' s.heap s'.heap∧HOk P w H' s'.heap∧Heap.FlyingW B outer x C a0 s'.heap ∧
   (∀b,H' b≠none->∃o,B.get? b=some o)∧(∀b o,s.heap.get? b=some o->b∉frs outer->∃o',B.get? b=some o')∧E C none H'
theorem xK{env:Env}{l:List Env}{L:Addr}(h:env.frame=some L):frs (env::l)=L::frs l:=by
 unfold frs;rw[List.filterMap_cons,h]
theorem vp {fs:List Addr}{H H':Hp}{h0 h h' B:Heap} (u:Un fs [] H H' h0 h) (hB:B.StaysIn h) (hB':B.StaysIn h') (up:h.UpToSlots h')
  (fr:∀b∈fs,∃o,h.get? b=some o∧∀vs,o.data≠.fields vs) (cov:∀b o,h0.get? b=some o->b∉fs->∃o',B.get? b=some o'):Un fs [] H H' h0 h' where
 keep b o e n hb hx:=by
  have h1:=u.keep b o e n hb hx
  obtain⟨o',e'⟩:=cov b o e hb
  have h2:=hB b o' e'
  rw[h1] at h2;cases h2
  exact hB' b o e'
 slot b o e n hb hx:=by
  obtain⟨sl,h1⟩:=u.slot b o e n hb hx
  obtain⟨o1,h2,nf⟩:=fr b hb
  rw[h1] at h2;cases h2
  obtain⟨sl2,h3⟩:=up b _ h1 nf
  exact⟨sl2,h3⟩
 free:=u.free
 there b o e hx:=by
  by_cases hb:b∈fs
  ·obtain⟨o1,h2,nf⟩:=fr b hb
   obtain⟨sl2,h3⟩:=up b _ h2 nf
   exact⟨_,h3⟩
  ·obtain⟨o',e'⟩:=cov b o e hb
   exact⟨o',hB' b o' e'⟩
 tups:=u.tups
 frzs:=u.frzs
 tbls:=u.tbls
theorem sy {P:Program}{w:World}{H':Hp}{h h' B:Heap} (ok:HOk P w H' h) (hB:B.StaysIn h) (hB':B.StaysIn h') (cov:∀ b,H' b≠none->∃ o,B.get? b=some o):HOk P w H' h':=fun a o e=>
 (ok a o e).stay (fun b u hb hu=>by
   have hn:H' b≠none:=by
    rcases hb with rfl | hb
    ·rw[e];simp
    ·rw[hb];simp
   obtain⟨o',e'⟩:=cov b hn
   have:=hB b o' e'
   rw[hu] at this;cases this
   exact hB' b u e') (fun _ h=>h) (fun _ _ h=>h)
section
variable{P:Program}{w:World}{K:PySem.W.Frag}{mg:Str->Option Value}{base:Heap}{N:List Str}{qual:Str}{scope:Scope}{f:Addr}{cd:Value}{A:Around}{outer:List Env}{s:Shared}{H:Hp}{E:XK}
abbrev cB(P:Program)(w:World)(K:PySem.W.Frag)(mg:Str->Option Value)(base:Heap)(N:List Str)(qual:Str)(scope:Scope)(f:Addr)(cd:Value)(A:Around)(outer:List Env)(s:Shared)(H:Hp)(E:XK):Cx:=
 cxOf (mO P w) P w K mg base N qual scope f cd A outer s H E
theorem aH:Passes (mO P w) (cB P w K mg base N qual scope f cd A outer s H E) E:=by
 intro pins σ H1 s1 e s' I hf
 obtain⟨x,C,a0,H',B,rfl,os,bare,un,hok,fl,ci,cii,q⟩:=hf
 have J:Inv (cB P w K mg base N qual scope f cd A outer s H E) pins σ H' s':=I.call' (ch:=[]) os un hok bare (fun b z=>absurd z (by simp))
 have hfr:(cB P w K mg base N qual scope f cd A outer s H E).A.frames=some ((cB P w K mg base N qual scope f cd A outer s H E).env::outer):=I.ok.frames
 have hfs:∀b∈frs outer,∃o,s'.heap.get? b=some o∧∀vs,o.data≠.fields vs:=fun b hb=>(fl.2.2.1.2.2.mem hb).2
 have hfrm:(cB P w K mg base N qual scope f cd A outer s H E).env.frame=some (cB P w K mg base N qual scope f cd A outer s H E).env.locals:=rfl
 have cov:∀b o,s.heap.get? b=some o->b∉frs outer->∃o',B.get? b=some o':=fun b o e hb=>by
  obtain⟨o1,h1⟩:=I.base.there b o e (show b∉([]:List Addr) by simp)
  refine cii b o1 h1 ?_
  show b∉frs ((cB P w K mg base N qual scope f cd A outer s H E).env::outer)
  rw[xK hfrm]
  intro hm
  rcases List.mem_cons.mp hm with rfl | hm
  ·exact absurd (Heap.lt_size e) (Nat.not_lt.mpr I.ok.above)
  ·exact hb hm
 show wpAny _ _ (leaving _ (.ref x)) _ _ s'
 refine wpAny_leaves_onW hfr rfl fl fun h' fl' up=>?_
 exact⟨x,C,a0,H',B,rfl,J.os,bare,vp J.base fl.1 fl'.1 up hfs cov,sy hok fl.1 fl'.1 ci,fl',ci,cov,q⟩
theorem KD {pins:List (Addr×Obj)}{σ:St}{H1:Hp}{s1:Shared}{h1:Heap}{e:Addr}{C:Value}{args:List Value} (I:Inv (cB P w K mg base N qual scope f cd A outer s H E) pins σ H1 s1)
  (hx:Heap.MadeExcOf s1.heap h1 e C args) (q:E C none H1):(cB P w K mg base N qual scope f cd A outer s H E).xe (.ref e) { s1 with heap:=h1 }:=by
 have hfr:(cB P w K mg base N qual scope f cd A outer s H E).A.frames=some ((cB P w K mg base N qual scope f cd A outer s H E).env::outer):=I.ok.frames
 have hfrm:(cB P w K mg base N qual scope f cd A outer s H E).env.frame=some (cB P w K mg base N qual scope f cd A outer s H E).env.locals:=rfl
 have ff:s1.heap.FunFrames base ((cB P w K mg base N qual scope f cd A outer s H E).env::outer):=I.stack
 have hin:∀env∈((cB P w K mg base N qual scope f cd A outer s H E).env::outer),∀b,env.frame=some b->b∈frs ((cB P w K mg base N qual scope f cd A outer s H E).env::outer):=fun env he b hb=>List.mem_filterMap.mpr ⟨env,he,hb⟩
 have hst:(PySem.W.hideAll s1.heap (frs ((cB P w K mg base N qual scope f cd A outer s H E).env::outer))).StaysIn s1.heap:=fun b o q=>PySem.W.of_hideAll _ q
 have cov:∀b o,s.heap.get? b=some o->b∉frs outer->∃o',(PySem.W.hideAll s1.heap (frs ((cB P w K mg base N qual scope f cd A outer s H E).env::outer))).get? b=some o':=fun b o e hb=>by
  obtain⟨o1,h1⟩:=I.base.there b o e (show b∉([]:List Addr) by simp)
  refine⟨o1,PySem.W.hideAll_get _ h1 ?_⟩
  rw[xK hfrm]
  intro hm
  rcases List.mem_cons.mp hm with rfl | hm
  ·exact absurd (Heap.lt_size e) (Nat.not_lt.mpr I.ok.above)
  ·exact hb hm
 have ci:∀ b,H1 b≠none->∃ o,(PySem.W.hideAll s1.heap (frs ((cB P w K mg base N qual scope f cd A outer s H E).env::outer))).get? b=some o:=fun b hb=>by
  cases hb':H1 b with
  |none=>exact absurd hb' hb
  |some o=>
    have lt:=I.hok.lt hb'
    have ex:∃o',s1.heap.get? b=some o':=(I.hok b o hb').there
    obtain⟨o',ho'⟩:=ex
    refine⟨o',PySem.W.hideAll_get _ ho' fun hm=>?_⟩
    have:=I.stkFree b hm
    rw[hb'] at this;cases this
 have hfs:∀b∈frs outer,∃o,h1.get? b=some o∧∀vs,o.data≠.fields vs:=fun b hb=>by
  obtain⟨_,o,ho,nf⟩:=ff.2.2.mem hb
  exact⟨o,hx.keeps _ _ ho,nf⟩
 have I1:Inv (cB P w K mg base N qual scope f cd A outer s H E) pins σ H1 { s1 with heap:=h1 }:=I.kept (t':=s1.toks) hx.keeps
 show wpAny _ _ (leaving _ (.ref e)) _ _ _
 refine wpAny_leaves_madeW hfr rfl hst (PySem.W.funFrames_hide ff hin) hx fun h' t fl' _ _ up=>?_
 exact⟨e,C,.ref t,H1,_,rfl,I1.os,I1.bare,vp I1.base (fun b o e=>hx.keeps _ _ (hst _ _ e)) fl'.1 up hfs cov,sy I1.hok (fun b o e=>hx.keeps _ _ (hst _ _ e)) fl'.1 ci,fl',ci,cov,q⟩
end
abbrev tu:List Value:=[.type "ValueError",.type "Exception",.type "BaseException",.type "object"]
theorem uR {K:PySem.W.Frag}{h:Heap}{mg:Str->Option Value}{x:Str}{C:Addr}{bmB:List Value}{newId:String} (X:K.In h) (m:mg x=some (.ref C)) (q:PySem.W.excIn K C bmB newId=true):OwnCls x C bmB newId mg h:=by
 refine⟨m,?_⟩
 unfold PySem.W.excIn at q
 split at q
 ·rename_i dd cd sl hobj
  split at q
  ·rename_i C' tl a0 a1 a2 a3 n a5 hmro hslot
   (simp only[Bool.not_eq_true',Bool.and_eq_true,beq_iff_eq] at q)
   obtain⟨⟨⟨⟨⟨rfl,rfl⟩,hnd⟩,ht⟩,hns⟩,hin⟩:=q
   obtain⟨c1,c2,c3,c4,c5,c6,c7,c8,c9,c10,c11⟩:=cd
   dsimp only at hmro hnd hns hin
   subst hmro hnd
   have hslv:sl=#[a0,a1,a2,a3,some (.builtin n),a5]:=by
    obtain⟨l⟩:=sl
    simp only at hslot
    rw[hslot]
   subst hslv
   exact⟨tl,c4,c1,c5,c2,c6,c7,c8,c9,c10,dd,a0,a1,a2,a3,a5,_,X _ _ hobj,.of_isNs (PySem.W.isNs_of_in X hns),PySem.W.nsMap_none_of_in X hns hin,PySem.W.tail_of_in X ht⟩
  ·cases q
 ·cases q
structure XCls(K:PySem.W.Frag)(mg:Str->Option Value)(x:Str)(C:Addr):Prop where
 at_:mg x=some (.ref C)
 exc:PySem.W.excIn K C tu "ValueError.__new__"=true
section
variable{P:Program}{w:World}{K:PySem.W.Frag}{mg:Str->Option Value}{base:Heap}{N:List Str}{qual:Str}{scope:Scope}{f:Addr}{cd:Value}{A:Around}{outer:List Env}{s:Shared}{H:Hp}{E:XK}
theorem Gz{x:Str}{C:Addr}{np cpos pos:Pos}{e:Expr}{te:TE}(hc:XCls K mg x C)(he:PE (cB P w K mg base N qual scope f cd A outer s H E) e te)
  (hg:Gl (cB P w K mg base N qual scope f cd A outer s H E) x:=by rfl) (hd:(x==("__debug__":Str))=false:=by decide)
  (hst:starEach [e] (cB P w K mg base N qual scope f cd A outer s H E).env=[(false,eval e (cB P w K mg base N qual scope f cd A outer s H E).env)]:=by rfl) :
  PS (cB P w K mg base N qual scope f cd A outer s H E) (.Raise (some (.Call (.Name x np) [e] [] cpos)) none pos) (fun _ σ H1=>te σ H1 fun v H2=>[v].length=1∧E (.ref C) none H2):=by
 intro pins s1 σ H1 D I h
 have O:=uR (newId := "ValueError.__new__") (bmB:=tu) (mg:=mg) (x:=x) I.ok.mod.kin hc.at_ hc.exc
 obtain⟨tl,Nn,nm,q,bs,hdct,sn,sub,ab,col,dd,k0,k1,k2,k3,k5,mN,hC,hN,hni,T⟩:=O.obj
 refine wpAny_Raise_call_subT (C:=C) (nm:=nm) (q:=q) (N:=Nn) (bs:=bs) (bm:=tl) (hdct:=hdct) (sn:=sn) (sub:=sub) (ab:=ab) (col:=col) (dd:=dd) (k0:=k0) (k1:=k1) (k2:=k2) (k3:=k3) (k5:=k5)
  PySem.F.excBase_ValueError (mN:=mN) (T.hasType PySem.F.excBase_ValueError.hasBase) (I.ok.hd rfl) (by rw[hst];rfl) hni (ld_glob I hg hc.at_ ⟨rfl,?_⟩ hd)
 have hPA:=(pa_cons he pa_nil hst) cpos pins s1 σ H1 (fun vs H2=>vs.length=1∧E (.ref C) none H2) I h
 rw[hst] at hPA ⊢
 refine Calls.evalArgs_plain (wpAny_mono hPA (fun vs s₂ h₂=>?_) fun _ _ y=>y)
 obtain⟨ws,H2,I2,rv,l1,qE⟩:=h₂
 have lv:vs.length=1:=by rw[←rv.length];exact l1
 have kp:∀b o,base.get? b=some o->s₂.heap.get? b=some o:=I2.bk
 exact⟨rfl,by rw[lv];decide,kp _ _ hC,hN.keeps kp,T.keeps kp,fun h' e hm=>KD I2 hm qE⟩
end
section
variable{X:Cx}{pins:List (Addr×Obj)}{σ:St}{H:Hp}{s:Shared}{h' B:Heap}
theorem Inv.land(I:Inv X pins σ H s)(hc:X.env.cells=[])(hex:X.ex=[])(hB:B.StaysIn s.heap)(hB':B.StaysIn h')(up:s.heap.UpToSlots h')
  (fr:∀b∈X.fs,∃o,s.heap.get? b=some o∧∀vs,o.data≠.fields vs) (ci:∀b,H b≠none->∃o,B.get? b=some o) (cov:∀b o,X.s₀.heap.get? b=some o->b∉X.fs->∃o',B.get? b=some o')
  (cp:∀p∈X.pn++pins,B.get? p.1=some p.2):Inv X pins σ H { s with heap:=h' }:=by
 have nc:∀x c,X.env.cells.lookup x=some c->False:=fun x c e=>by rw[hc] at e;cases e
 obtain⟨m,hn,hl⟩:=I.loc
 have ub:Un X.fs [] X.H₀ H X.s₀.heap s.heap:=by have:=I.base;rw[hex] at this;exact this
 refine⟨I.ok,I.os,I.bare,?_,⟨m,up.ns hn,fun i x v h1 h2 h3=>?_⟩,fun x c e=>(nc x c e).elim,I.free,fun x c e=>(nc x c e).elim,fun p hp=>?_,sy I.hok hB hB' ci,I.len⟩
 ·rw[hex];exact vp ub hB hB' up fr cov
 ·obtain⟨u,r,q⟩:=hl i x v h1 h2 h3
  refine⟨u,r,?_⟩
  rcases q with q | ⟨_,c,e,_⟩
  ·exact .inl q
  ·exact (nc x c e).elim
 ·obtain⟨e,n,ne,nf,d⟩:=I.pin p hp
  exact⟨hB' _ _ (cp p hp),n,ne,nf,d⟩
theorem Inv.gone (I:Inv X pins σ H s) (hN:X.N.Nodup) (hi:X.N[i]?=some n) (hk:X.env.kindOf n=some .local)
  (h:∀s',Inv X pins (σ.set i none) H s'->Q () s'):wpAny M A (do bindName X.env n .none;unbindBehindTheSuite X.env n pos) Q E s:=by
 obtain⟨m,hn,hl⟩:=id I.loc
 have hcls:(X.env.scope.kind==.class || (X.env.scope.kind==.module&&X.env.locals != X.env.globals))=false:=by rw[I.ok.kind];rfl
 have cne:=I.cne
 obtain⟨oL,_,_,hoL,_⟩:=id hn
 refine wpAny_nameGoes_keeps hk hn hcls fun h' v hn' hs=>?_
 refine h _ ⟨I.ok,I.os,I.bare,⟨fun b o e n hb hx=>?_,fun b o e n hb hx=>?_,I.base.free,fun b o e hx=>?_,I.base.tups,I.base.frzs,I.base.tbls⟩,⟨_,hn',fun j y v' e1 e2 e3=>?_⟩,fun y c e=>?_,I.free,I.freeC,fun p hp=>?_,fun b ob e=>?_,by simpa using I.len⟩
 ·exact (hs.2 b (Nat.ne_of_lt (Nat.lt_of_lt_of_le (Heap.lt_size e) I.ok.above))).trans (I.base.keep b o e n hb hx)
 ·obtain⟨sl,e1⟩:=I.base.slot b o e n hb hx
  exact⟨sl,(hs.2 b (Nat.ne_of_lt (Nat.lt_of_lt_of_le (Heap.lt_size e) I.ok.above))).trans e1⟩
 ·obtain⟨o',e1⟩:=I.base.there b o e hx
  exact⟨o',(hs.2 b (Nat.ne_of_lt (Nat.lt_of_lt_of_le (Heap.lt_size e) I.ok.above))).trans e1⟩
 ·have hj:j≠i:=fun z=>by
   subst z
   have hlt:j<σ.length:=by rw[I.len];exact (List.getElem?_eq_some_iff.mp hi).1
   rw[List.getElem?_set_self hlt] at e2
   cases e2
  rw[List.getElem?_set_ne (Ne.symm hj)] at e2
  obtain⟨u',r',q⟩:=hl j y v' e1 e2 e3
  refine⟨u',r',?_⟩
  rcases q with ⟨k,e⟩ | ⟨k,c,e,z⟩
  ·refine .inl ⟨k,?_⟩
   have:y≠n:=fun e=>hj (nodup_ix hN e1 (e ▸ hi))
   simp[this,e]
  ·exact .inr ⟨k,c,e,z.sameBut hs (cne y c e)⟩
 ·obtain⟨w',z⟩:=I.cell y c e
  exact⟨w',z.sameBut hs (cne y c e)⟩
 ·obtain⟨e,n,ne,nf,d⟩:=I.pin p hp
  exact⟨(hs.2 p.1 ne).trans e,n,ne,nf,d⟩
 ·refine (I.hok b ob e).stay (fun c w' hc q=>(hs.2 c ?_).trans q) (fun _ q=>q) fun _ _ q=>q
  rintro rfl
  rcases hc with hc | hc
  ·rw[←hc,I.free] at e;cases e
  ·rw[I.free] at hc;cases hc
end
def N7 (X:Cx) (pins:List (Addr×Obj)) (Eh:XK):Value->Shared->Prop:=fun e s'=>
 ∃(σ':St) (H':Hp) (x:Addr) (C a0:Value) (B:Heap),e=.ref x∧Inv X pins σ' H' s'∧Heap.FlyingW B X.stack x C a0 s'.heap∧(∀b,H' b≠none->∃o,B.get? b=some o) ∧
   (∀b o,X.s₀.heap.get? b=some o->b∉X.fs->∃o',B.get? b=some o')∧(∀p∈X.pn++pins,B.get? p.1=some p.2)∧Eh C none H'
abbrev Cx.tryC(X:Cx)(pins:List (Addr×Obj))(Eh:XK):Cx:={ X with pn:=X.pn++pins,xe:=N7 X pins Eh }
abbrev Cx.sui(X:Cx)(x:Addr)(oe:Obj):Cx:={ X with A:=X.A.mark (some (.ref x)),calm:=false,pn:=X.pn++[(x,oe)],xe:=fun _ _=>False }
section
variable{X:Cx}{pins:List (Addr×Obj)}{σ:St}{H:Hp}{s:Shared}{Eh:XK}{P:Program}{w:World}
theorem Inv.toTry(I:Inv X pins σ H s):Inv (X.tryC pins Eh) [] σ H s:=
 ⟨⟨I.ok.mod,I.ok.kind,I.ok.glob,I.ok.blt,I.ok.above,I.ok.inj,I.ok.has,I.ok.cab,I.ok.hd,I.ok.frames,I.ok.stk,I.ok.exf,I.ok.bs,I.ok.bsz,I.ok.noex,I.ok.exfs,I.ok.funs,I.ok.frf⟩,I.os,I.bare,I.base,I.loc,I.cell,I.free,I.freeC,fun p hp=>I.pin p (by simpa using hp),I.hok,I.len⟩
theorem Inv.ofTry(I:Inv (X.tryC pins Eh) pins2 σ H s):Inv X pins σ H s:=
 ⟨⟨I.ok.mod,I.ok.kind,I.ok.glob,I.ok.blt,I.ok.above,I.ok.inj,I.ok.has,I.ok.cab,I.ok.hd,I.ok.frames,I.ok.stk,I.ok.exf,I.ok.bs,I.ok.bsz,I.ok.noex,I.ok.exfs,I.ok.funs,I.ok.frf⟩,I.os,I.bare,I.base,I.loc,I.cell,I.free,I.freeC,fun p hp=>I.pin p (List.mem_append_left _ hp),I.hok,I.len⟩
theorem Inv.toSui (I:Inv X pins σ H s) (h:s.heap.get? x=some oe∧H x=none∧x≠X.env.locals∧x∉X.fs∧∀ v,oe.data≠.cell v):Inv (X.sui x oe) pins σ H s:=
 ⟨⟨I.ok.mod,I.ok.kind,I.ok.glob,I.ok.blt,I.ok.above,I.ok.inj,I.ok.has,I.ok.cab,fun z=>(by cases z),I.ok.frames,I.ok.stk,I.ok.exf,I.ok.bs,I.ok.bsz,I.ok.noex,I.ok.exfs,I.ok.funs,I.ok.frf⟩,I.os,I.bare,I.base,I.loc,I.cell,I.free,I.freeC,fun p hp=>by
  rcases List.mem_append.mp hp with hp | hp
  ·rcases List.mem_append.mp hp with hp | hp
   ·exact I.pin p (List.mem_append_left _ hp)
   ·cases List.mem_singleton.mp hp;exact h
  ·exact I.pin p (List.mem_append_right _ hp),I.hok,I.len⟩
theorem Inv.ofSui(ok:X.Ok)(I:Inv (X.sui x oe) pins σ H s):Inv X pins σ H s:=
 ⟨ok,I.os,I.bare,I.base,I.loc,I.cell,I.free,I.freeC,fun p hp=>I.pin p (by
  rcases List.mem_append.mp hp with hp | hp
  ·exact List.mem_append_left _ (List.mem_append_left _ hp)
  ·exact List.mem_append_right _ hp),I.hok,I.len⟩
theorem Be (hex:X.ex=[]) (hP:X.prog=P) (hw:X.w=w):Passes (mO P w) (X.tryC pins Eh) Eh:=by
 subst hP hw
 intro pins2 σ H1 s1 e s' I hf
 obtain⟨x,C,a0,H',B,rfl,os,bare,un,hok,fl,ci,cii,q⟩:=hf
 have J:Inv (X.tryC pins Eh) pins2 σ H' s':=I.call' (ch:=[]) os un hok bare (fun b z=>absurd z (by simp))
 have J':=J.ofTry
 have cp:∀p∈X.pn++pins,B.get? p.1=some p.2:=fun p hp=>by
  obtain⟨e1,n1,ne1,nf1,d1⟩:=I.ofTry.pin p hp
  obtain⟨e2,_⟩:=J'.pin p hp
  obtain⟨o',e3⟩:=cii p.1 p.2 e1 (fun hm=>by
   rcases List.mem_cons.mp (I.ofTry.stkSub _ hm) with z | z
   ·exact ne1 z
   ·exact nf1 z)
  have:=fl.1 _ _ e3
  rw[e2] at this;cases this
  exact e3
 have cov:∀b o,X.s₀.heap.get? b=some o->b∉X.fs->∃o',B.get? b=some o':=fun b o e hb=>by
  obtain⟨o1,h1⟩:=I.base.there b o e (by show b∉X.ex;rw[hex];simp)
  refine cii b o1 h1 fun hm=>?_
  rcases List.mem_cons.mp (I.ofTry.stkSub _ hm) with z | z
  ·exact absurd (Heap.lt_size e) (by rw[z];exact Nat.not_lt.mpr I.ok.above)
  ·exact hb z
 exact⟨σ,H',x,C,a0,B,rfl,J',fl,ci,cov,cp,q⟩
end
section
variable{M:Model}{A:Around}{E:Value->Shared->Prop}
variable{nm q:Str}{C N:Addr}{bs bm:List Value}{hdct:Bool}{sn:List Str}{sub:List Value}{ab:Bool}{col:Option Bool}{dd:Option Addr}{k0 k1 k2 k3 k5:Option Value}{newId:String}
variable{nm' q':Str}{C' N':Addr}{bs' bm':List Value}{hdct':Bool}{sn':List Str}{sub':List Value}{ab':Bool}{col':Option Bool}{dd':Option Addr}{j0 j1 j2 j3 j5:Option Value}{newId':String}
theorem uH{h:Heap}{g:Array GenState}{d:Drawn}{t:Nat}{os:OsState}{e:Addr}{oe:Obj}{Q:Bool->Shared->Prop}
  (hC:h.get? C=some (excClassObj nm q C N bs bm hdct sn sub ab col dd k0 k1 k2 k3 k5 newId)) (hC':h.get? C'=some (excClassObj nm' q' C' N' bs' bm' hdct' sn' sub' ab' col' dd' j0 j1 j2 j3 j5 newId')) (he:h.get? e=some oe) (hcls:oe.cls=.ref C)
  (hbase:bm'.contains (.type "BaseException")=true) (hsub:(Value.ref C::bm).contains (.ref C')=true)
  (hq:Q true ⟨h,g,d,t,os⟩):wpAny M A (excMatches (.ref e) (.ref C')) Q E ⟨h,g,d,t,os⟩:=by
 have hcB:(Value.ref C'::bm').contains (.type "BaseException")=true:=by rw[List.contains_cons,hbase,Bool.or_true]
 have f:=tc_notTuple
 unfold excMatches
 repeat (first | (with_reducible refine wpAny_loadPart_at he ?_;rw[hcls]) | with_reducible refine wpAny_loadPart_at hC' ?_ | (with_reducible refine wpAny_isSubtype_exc hC' ?_;rw[hcB]) | (with_reducible refine wpAny_isSubtype_exc hC ?_;rw[hsub]) | wp_step)
 all_goals exact hq
end
structure Catches(K:PySem.W.Frag)(C F:Addr):Prop where
 exc:PySem.W.excIn K C tu "ValueError.__new__"=true
 excF:PySem.W.excIn K F tu "ValueError.__new__"=true
 sub:PySem.W.mroIn K C (.ref F)=some true
theorem Az {K:PySem.W.Frag}{M:Model}{A:Around}{E:Value->Shared->Prop}{s:Shared}{C F e:Addr}{oe:Obj}{Q:Bool->Shared->Prop} (X:K.In s.heap) (c:Catches K C F) (he:s.heap.get? e=some oe) (hcls:oe.cls=.ref C) (hq:Q true s) :
  wpAny M A (excMatches (.ref e) (.ref F)) Q E s:=by
 obtain⟨bm,N,nm,q,bs,hdct,sn,sub,ab,col,dd,k0,k1,k2,k3,k5,mN,hC,hN,hni,T⟩:=(uR (mg:=fun _=>some (.ref C)) (x := "x") X rfl c.exc).obj
 obtain⟨bm',N',nm',q',bs',hdct',sn',sub',ab',col',dd',j0,j1,j2,j3,j5,mN',hC',hN',hni',T'⟩:=(uR (mg:=fun _=>some (.ref F)) (x := "x") X rfl c.excF).obj
 have hsub:(Value.ref C::bm).contains (.ref F)=true:=by
  have h1:=c.sub
  unfold PySem.W.mroIn at h1
  obtain⟨cd,a,b⟩:=Option.bind_eq_some_iff.mp h1
  unfold PySem.W.clsIn at a
  split at a
  ·rename_i c' d' cd' sl' ho
   have:=X _ _ ho
   rw[hC] at this
   cases this
   cases a
   split at b
   ·cases b
   ·exact Option.some.inj b
  ·cases a
 obtain⟨hp,g,d,tk,os⟩:=s
 exact uH hC hC' he hcls (T'.hasType PySem.F.excBase_ValueError.hasBase) hsub hq
def NQ(X:Cx)(i:Nat)(F:Addr)(Eh:XK)(tb:TS)(th:Addr->Obj->TS):TS:=fun D σ H=>
 tb D σ H∧∀(x:Addr) (oe:Obj) (C:Value) (H1:Hp),oe.cls=C->(∃vs,oe.data=.fields vs)->Eh C none H1->(∃c,C=.ref c∧Catches X.K c F) ∧
  th x oe { D with nx:=fun σ' H'=>D.nx (σ'.set i none) H',bk:=fun σ' H'=>D.bk (σ'.set i none) H',ct:=fun σ' H'=>D.ct (σ'.set i none) H' } ((List.replicate X.N.length none).set i (some (.ref x))) H1
theorem Kh (hcalm:X.calm=true) (hcells:X.env.cells=[]) (hex:X.ex=[])
  (hst:X.stack=X.env::X.outer) (hfr:X.env.frame=some X.env.locals) (hN:X.N.Nodup) (hi:X.N[i]?=some n) (hk:X.env.kindOf n=some .local) (hm:X.mg x=some (.ref F))
  (hb:∀pins,PSs (X.tryC pins Eh) body tb) (hs:∀y oe,PSs (X.sui y oe) (b₀::suite) (th y oe)) (hg:Gl X x:=by rfl) (hd:(x==("__debug__":Str))=false:=by decide) :
  PS X (.Try body [.ExceptHandler (some (.Name x np)) (some n) (b₀::suite) p1] [] [] pos) (NQ X i F Eh tb th):=by
 intro pins s σ H D I h
 obtain⟨h1,h2⟩:=h
 have MK:∀{f:Flow}{s':Shared},SP (X.tryC pins Eh) [] D f s'->SP X pins D f s':=fun {f s'} z=>by
  cases f with
  |next=>obtain⟨σ',H',J,q⟩:=z;exact⟨σ',H',J.ofTry,q⟩
  |brk=>obtain⟨σ',H',J,q⟩:=z;exact⟨σ',H',J.ofTry,q⟩
  |cont=>obtain⟨σ',H',J,q⟩:=z;exact⟨σ',H',J.ofTry,q⟩
  |ret u=>obtain⟨v,σ',H',J,r,q⟩:=z;exact⟨v,σ',H',J.ofTry,r,q⟩
 refine wpAny_Try_except (wpAny_mono ((hb pins) [] s σ H D I.toTry h1) (fun f s₁ hf=>?_) fun e s₁ he=>?_)
 ·have hf':=MK hf
  cases f with
  |next=>exact wpAny_execs_nil hf'
  |brk=>exact hf'
  |cont=>exact hf'
  |ret u=>exact hf'
 obtain⟨σ',H',y,C,a0,B,rfl,J,fl,ci,cov,cp,q⟩:=he
 have hfrs:X.A.frames=some (X.env::X.outer):=by rw[I.ok.frames,hst]
 rw[hst] at fl
 have fr:∀b∈X.fs,∃o,s₁.heap.get? b=some o∧∀vs,o.data≠.fields vs:=fun b hb=>(fl.2.2.1.2.2.mem hb).2
 refine wpAny_looks_onW hfrs hfr fl fun h₄ held up₄=>?_
 refine wpAny_landsW held fun h₅ fl₅ up₅=>?_
 have J₅:Inv X pins σ' H' { s₁ with heap:=h₅ }:=J.land hcells hex fl.1 fl₅.1 (up₄.trans up₅) fr ci cov cp
 obtain⟨ob,wb,hob,hobc,hobd,_⟩:=fl₅.first
 refine wpAny_handleBy_cons (codeAny_handlers_test ?_) (by intro z;cases z)
 have K₅:∀{E:Value->Shared->Prop}{Q:Value->Shared->Prop},Q (.ref F) { s₁ with heap:=h₅ }->wpAny (model X.prog X.w) (X.A.mark (some (.ref y))) (eval (.Name x np) X.env) Q E { s₁ with heap:=h₅ }:=fun hQ=>
  Calls.Name_function_global I.ok.kind hg (by
   have g5:h₅.Ns X.env.globals X.mg:=by rw[I.ok.glob];exact I.ok.mod.glob.keeps J₅.bk
   exact Calls.loadGlobal_global g5 hm hQ) hd
 refine K₅ ?_
 obtain⟨⟨c,hCc,cat⟩,_⟩:=h2 y ob C H' hobc ⟨_,hobd⟩ q
 subst hCc
 refine Az J₅.kIn cat hob hobc ?_
 refine codeAny_handlers_suite_as ?_
 refine lands_againW fl₅ fun h₆ fl₆ up₆=>?_
 have fr₅:∀b∈X.fs,∃o,h₅.get? b=some o∧∀vs,o.data≠.fields vs:=fun b hb=>(fl₅.2.2.1.2.2.mem hb).2
 have fr₆:∀b∈X.fs,∃o,h₆.get? b=some o∧∀vs,o.data≠.fields vs:=fun b hb=>(fl₆.2.2.1.2.2.mem hb).2
 have J₆:Inv X pins σ' H' { s₁ with heap:=h₆ }:=J₅.land (s:={ s₁ with heap:=h₅ }) hcells hex fl₅.1 fl₆.1 up₆ fr₅ ci cov cp
 have J₇:Inv X pins (List.replicate X.N.length none) H' { s₁ with heap:=h₆ }:=J₆.weak (by rw[J₆.len];simp) fun i v z=>by
  rw[List.getElem?_replicate] at z
  split at z<;>cases z
 obtain⟨oe,ws,hoe,hoec,hoed,hoe0⟩:=fl₆.first
 obtain⟨m,⟨oL,es,ep,hoL,hdL,_⟩,_⟩:=id J₇.loc
 have ynL:y≠X.env.locals:=fun z=>by rw[z] at hoe;rw[hoL] at hoe;cases hoe;rw[hdL] at hoed;cases hoed
 have ynf:y∉X.fs:=fun z=>by
  obtain⟨o,ho,nf⟩:=fr₆ y z
  rw[hoe] at ho;cases ho
  exact nf _ hoed
 have yH:H' y=none:=by
  cases z:H' y with
  |none=>rfl
  |some o=>
    obtain⟨o',e'⟩:=ci y (by rw[z];simp)
    rw[fl.2.1] at e';cases e'
 refine store_ok2 (v:=.ref y) J₇ hN hi (.inl hk) rfl (fun s' I' hsb=>?_) (.inr hk)
 obtain⟨a,hsb,ha⟩:=hsb
 have ha':a=X.env.locals:=by
  rcases ha with ha | ha
  ·exact ha
  ·rw[hcells] at ha;cases ha
 subst ha'
 have hoe':s'.heap.get? y=some oe:=(hsb.2 y ynL).trans hoe
 have IS:=I'.toSui (x:=y) (oe:=oe) ⟨hoe',yH,ynL,ynf,fun v z=>by rw[hoed] at z;cases z⟩
 refine wpAny_mono ((hs y oe) pins s' _ H' _ IS (h2 y oe (.ref c) H' hoec ⟨_,hoed⟩ q).2) (fun f s₃ hf=>?_) fun _ _ z=>z.elim
 cases f with
 |next=>
   obtain⟨σ2,H2,J2,q2⟩:=hf
   exact (J2.ofSui I.ok).gone hN hi hk fun s4 J4=>⟨_,H2,J4,q2⟩
 |brk=>
   obtain⟨σ2,H2,J2,q2⟩:=hf
   exact (J2.ofSui I.ok).gone hN hi hk fun s4 J4=>⟨_,H2,J4,q2⟩
 |cont=>
   obtain⟨σ2,H2,J2,q2⟩:=hf
   exact (J2.ofSui I.ok).gone hN hi hk fun s4 J4=>⟨_,H2,J4,q2⟩
 |ret u=>
   obtain⟨v,σ2,H2,J2,r2,q2⟩:=hf
   exact (J2.ofSui I.ok).gone hN hi hk fun s4 J4=>⟨v,_,H2,J4,r2,q2⟩
structure XAt(K:PySem.W.Frag)(D:Addr):Prop where
 ga:PySem.W.findIn K (.ref D) "__getattribute__"=some (some (.builtin "BaseException.__getattribute__"))
 gn:PySem.W.findIn K (.ref D) "__getattr__"=some none
 gc:PySem.W.findIn K (.ref D) "__class__"=some (some (.builtin "object.__class__"))
 mo:PySem.W.mroIn K D (.type "object")=some true
 mb:PySem.W.mroIn K D (.type "BaseException")=some true
section
variable{prog:Program}{w:World}{A:Around}{E:Value->Shared->Prop}{h:Heap}{g:Array GenState}{d:Drawn}{t:Nat}{os:OsState}{x D:Addr}{oe:Obj}{K:PySem.W.Frag}
theorem CQ(hx:h.get? x=some oe)(hc:oe.cls=.ref D):PySem.W.Looks M h (typeOf (.ref x)) (.ref D):=hc ▸ (PySem.W.Looks.ld hx).andThen .now
open PySem.W Builtin.Getset_descriptor Builtin.ObjectAttr Builtin in
theorem Aq(X:K.In h)(hx:h.get? x=some oe)(hc:oe.cls=.ref D)(hm:mroIn K D (.type "object")=some true)
  (hR:R (.ok (.ret (.ref D))) ⟨h,g,d,t,os⟩):codeAny (model prog w) A (.call (.builtin "getset_descriptor.__get__") ⟨[.builtin "object.__class__",.ref x,tp],[]⟩) R ⟨h,g,d,t,os⟩:=by
 have Lty:=CQ (M:=model prog w) hx hc
 have Lmr:=looks_mroIn (M:=model prog w) X hm
 refine codeAny_call_builtin KF.slot_gs.plain KF.entry_gs (KF.slot_gs.check _ _ _ _ _ _ _ _ KF.type_class (KF.args_gs _ _ _) ?_)
 (unfold Builtin.«getset_descriptor.__get__» descrGet;rw[dga_obj];refine wpAny_bind (wpAny_pure ?_))
 (unfold descrGetter descrCheckInstance descrNameAndClass isInstance;simp only[KF.owner_class];repeat lk)
 refine⟨Code.quiet_builtin _ (by decide +kernel),codeAny_builtin KF.entry_class ?_⟩
 (unfold Builtin.«object.__class__» shownTypeOf;repeat lk)
 all_goals first | exact hR | assumption
theorem yX(X:K.In h)(T:XAt K D)(hx:h.get? x=some oe)(hc:oe.cls=.ref D)(hq:Q (.done (.ret (.ref D))) ⟨h,g,d,t,os⟩) :
  wpAny (model prog w) A (Builtin.«object.__getattribute__» ⟨[.ref x,.str "__class__" tk],[]⟩) Q E ⟨h,g,d,t,os⟩:=by
 have tyc:(⟨h,g,d,t,os⟩:Shared).TypeIs (.builtin "object.__class__") "getset_descriptor":=F.typeOf_object_class
 have u5:=F.typeOf_object_class
 have u6:=F.slot_gs_get.lookup
 have u7:=F.slot_gs_set.lookup
 have Lc:=PySem.W.looks_findIn (M:=model prog w) X T.gc
 repeat (any_goals (first | assumption | (with_reducible refine wpAny_loadPart_at hx ?_;rw[hc]) | with_reducible refine Lc.at ?_ | wp_step))
 refine Aq X hx hc T.mo ?_
 repeat (any_goals (first | wp_step | assumption))
theorem Fo(X:K.In h)(T:XAt K D)(hx:h.get? x=some oe)(hc:oe.cls=.ref D)(hq:Q () ⟨h,g,d,t,os⟩) :
  wpAny M A (checkBuiltinCall "BaseException.__getattribute__" ⟨[.ref x,nameV],[]⟩) Q E ⟨h,g,d,t,os⟩:=by
 have bk:builtinKind "BaseException.__getattribute__"=some .slot:=by decide +kernel
 have spl:splitId "BaseException.__getattribute__"=some ("BaseException", "__getattribute__"):=by decide +kernel
 have ha:=F.args_bexc_ga (.ref x) nameV
 have Lb:=PySem.W.looks_mroIn (M:=M) X T.mb
 simp only[checkBuiltinCall,bk,spl]
 refine wpAny_bind ?_
 ·unfold isInstance
  repeat (first | (with_reducible refine wpAny_loadPart_at hx ?_;rw[hc]) | with_reducible refine Lb.at ?_ | wp_step)
  exact hq
theorem Ao(X:K.In h)(T:XAt K D)(hx:h.get? x=some oe)(hc:oe.cls=.ref D)(hq:R (.ok (.ret (.ref D))) ⟨h,g,d,t,os⟩) :
  codeAny (model prog w) A (.call (.builtin "BaseException.__getattribute__") ⟨[.ref x,.str "__class__" tk],[]⟩) R ⟨h,g,d,t,os⟩:=
 codeAny_call_builtin F.attrBase_ValueError.ga.plain F.entry_bexc_ga (Fo X T hx hc (yX X T hx hc hq))
theorem Fp{fill expr:Bool}{Q:Value->Shared->Prop}(X:K.In h)(T:XAt K D)(hx:h.get? x=some oe)(hc:oe.cls=.ref D)(hq:Q (.ref D) ⟨h,g,d,t,os⟩) :
  wpAny (model prog w) A (getAttrBy (.ref x) (.str "__class__" tk) fill expr) Q E ⟨h,g,d,t,os⟩:=by
 have u3:=F.attrBase_ValueError.ga.bind (.ref x)
 have ex0:(expr&&onTheHeap (Value.builtin "BaseException.__getattribute__"))=false:=by cases expr<;>rfl
 have ex2:(Value.builtin "BaseException.__getattribute__"==Value.builtin "object.__getattribute__")=false:=by decide +kernel
 have ex1:(onTheHeap (Value.ref D)&&Value.builtin "BaseException.__getattribute__"==Value.builtin "object.__getattribute__")=false:=by rw[ex2];rfl
 have L1:=PySem.W.looks_findIn (M:=model prog w) X T.ga
 have L2:=PySem.W.looks_findIn (M:=model prog w) X T.gn
 repeat (any_goals (first | assumption | (with_reducible refine wpAny_loadPart_at hx ?_;rw[hc]) | with_reducible refine L1.at ?_ | with_reducible refine L2.at ?_ | wp_step))
 refine Ao X T hx hc ?_
 repeat (any_goals (first | wp_step | assumption))
theorem tO{Q:Option Value->Shared->Prop}(X:K.In h)(T:XAt K D)(hx:h.get? x=some oe)(hc:oe.cls=.ref D)(hq:Q (some (.ref D)) ⟨h,g,d,t+1,os⟩) :
  wpAny (model prog w) A (getAttr? (.ref x) "__class__") Q E ⟨h,g,d,t,os⟩:=by
 unfold getAttr? getAttrBy?
 refine wpAny_bind (wpAny_mkText (wpAny_bind (wpAny_attempt (Fp X T hx hc ?_))))
 repeat (any_goals (first | wp_step | assumption))
end
theorem Gf {K:PySem.W.Frag}{x D:Addr}{oe:Obj} (T:XAt K D) (hc:oe.cls=.ref D) :
  PySem.W.KitX K (.ref x) (.ref D) (fun h=>h.get? x=some oe) where
 ty:=fun _ _ _ I=>CQ I hc
 it:=fun _ _ X _=>by
  have h1:=T.mo
  unfold PySem.W.mroIn at h1
  obtain⟨cd,a,b⟩:=Option.bind_eq_some_iff.mp h1
  unfold PySem.W.clsIn at a
  split at a
  ·rename_i c' d' cd' sl' ho
   intro A' Q' E' s' k q
   unfold isType loadHead
   exact wpAny_bind (wpAny_loadPart (k _ _ (X _ _ ho)) (wpAny_pure q))
  ·cases a
 ne:=fun h tp dd its n sl X htp=>by
  have h1:=T.mo
  unfold PySem.W.mroIn at h1
  obtain⟨cd,a,b⟩:=Option.bind_eq_some_iff.mp h1
  refine Bool.eq_false_iff.mpr fun q=>?_
  cases Value.ref.inj (beq_iff_eq.mp q)
  unfold PySem.W.clsIn at a
  split at a
  ·rename_i c' d' cd' sl' ho
   have z:=(X _ _ ho).symm.trans htp
   cases z
  ·cases a
 ca:=fun {_ _ _ _ _ s} X I k=>by obtain⟨h,g,d,t,os⟩:=s;exact tO X T I hc k
def LR(K:PySem.W.Frag)(y:Addr)(oe:Obj):List V->Hp->VK->Prop:=fun xs H Q=>∃(c:V) (cv:Value) (D:Addr) (b:Bool),xs=[.ref y,c]∧RelV c cv∧(cv=.type "ValueError"∨∃C,cv=.ref C)∧oe.cls=.ref D∧XAt K D∧PySem.W.kitOne K (.ref D) cv=some b∧Q (.bl b) H
theorem RelV.det(r:RelV c u)(q:RelV c v)(h:u=.type "ValueError"∨∃C,u=.ref C):v=u:=by
 cases c with
 |ref a=>cases r;cases q;rfl
 |ty n=>cases r;cases q;rfl
 |non=>cases r;rcases h with h | ⟨C,h⟩<;>cases h
 |bl b=>cases r;rcases h with h | ⟨C,h⟩<;>cases h
 |int i=>obtain⟨t,rfl⟩:=r;rcases h with h | ⟨C,h⟩<;>cases h
 |str i=>obtain⟨t,rfl⟩:=r;rcases h with h | ⟨C,h⟩<;>cases h
 |byt i=>obtain⟨t,rfl⟩:=r;rcases h with h | ⟨C,h⟩<;>cases h
 |flt i=>obtain⟨t,rfl⟩:=r;rcases h with h | ⟨C,h⟩<;>cases h
theorem Cr(hp:(y,oe)∈X.pn):CallR X (.builtin "isinstance") (LR X.K y oe):=by
 intro pins s σ H xs us Q I r h
 obtain⟨c,cv,D,b,rfl,rc,hk,hc,T,e,q⟩:=h
 obtain⟨u,w',rfl,r1,r2⟩:=vals2 r
 cases r1
 have:w'=cv:=RelV.det rc r2 hk
 subst this
 exact PySem.W.kia_one (Gf T hc) I.kIn (I.pin (y,oe) (List.mem_append_left _ hp)).1 e (fun z=>nomatch z) fun tk=>⟨.bl b,H,I.tok _,rfl,q⟩
theorem J9(h:X.mg x=some (.ref C))(hg:Gl X x:=by rfl)(hd:(x==("__debug__":Str))=false:=by decide):PE X (.Name x pos) (tC (.ref C)):=pe_glob hg h rfl hd
def pick(js:List Nat)(σ:St):St:=js.map fun j=>(σ[j]?).getD none
theorem Eu(u:Un fs ex H H' h0 h)(hs:Heap.SameBut C h h')(hC:h0.objs.size≤C):Un fs ex H H' h0 h' where
 keep b o e n hb hx:=(hs.2 b (Nat.ne_of_lt (Nat.lt_of_lt_of_le (Heap.lt_size e) hC))).trans (u.keep b o e n hb hx)
 slot b o e n hb hx:=by
  obtain⟨sl,e1⟩:=u.slot b o e n hb hx
  exact⟨sl,(hs.2 b (Nat.ne_of_lt (Nat.lt_of_lt_of_le (Heap.lt_size e) hC))).trans e1⟩
 free:=u.free
 there b o e hx:=by
  obtain⟨o',e1⟩:=u.there b o e hx
  exact⟨o',(hs.2 b (Nat.ne_of_lt (Nat.lt_of_lt_of_le (Heap.lt_size e) hC))).trans e1⟩
 tups:=u.tups
 frzs:=u.frzs
 tbls:=u.tbls
theorem zJ (ok:HOk P w H h) (hs:Heap.SameBut C h h') (hC:H C=none):HOk P w H h':=fun b ob e=>
 (ok b ob e).stay (fun c w' hc q=>(hs.2 c (by
   rintro rfl
   rcases hc with hc | hc
   ·rw[←hc,hC] at e;cases e
   ·rw[hC] at hc;cases hc)).trans q) (fun _ q=>q) fun _ _ q=>q
structure DefC(P:Program)(w:World)(K:PySem.W.Frag)(mg:Str->Option Value)(base:Heap)(k:Nat)(x:Str)(ps:List Str)(sp:Sp):Prop where
 ex:∃f fd,FnOk P w K mg base (mO P w) k f fd ps sp∧Binds K fd ps []∧PySem.W.keepIn K (.ref f)=true∧mg x=some (.ref f)
section
variable{P:Program}{w:World}{K:PySem.W.Frag}{mg:Str->Option Value}{base:Heap}{k:Nat}{x:Str}{N ps:List Str}{sp:Sp}{st:Stmt}
theorem MF (F:Fun K x x st f fd) (S:FnScope N ps (defScope st)) (len:∀ vs H Q E,sp vs H Q E->vs.length=ps.length)
  (hbody:∀(cdv:Value) (A:Around) (outer:List Env) (s:Shared) (H:Hp) (vs:List V) (Q:VK) (E:XK),Room k (A.deeper (envOfC x (defScope st) s.heap.objs.size f cdv))->sp vs H Q E->
    ∃t,PSs (cB P w K mg base N x (defScope st) f cdv A outer s H E) (defBody st) t∧t { nx:=fun _ H'=>Q .non H',rt:=Q } (start N vs) H):FnOk P w K mg base (mO P w) (k+1) f fd ps sp:=by
 obtain⟨oc,od,kV,doc,pm,an,cdv,ct,osl,rfl,l,c⟩:=F.ex
 exact fn_of l c S len (hbody cdv)
theorem DefAt.okE (D:DefAt K mg x st) (S:FnScope N ps (defScope st)) (hb:∀ (kV doc pm:Value) (an:Option Addr) (cdv ct:Value) (us:List Value),us.length=ps.length->bindArgs (PySem.W.fnOf x x (defArgs st) (defBody st) (defScope st) .none kV doc pm an cdv ct) ⟨us,[]⟩=pure (ps.zip us))
  (len:∀vs H Q E,sp vs H Q E->vs.length=ps.length)
  (hbody:∀(f:Addr) (cdv:Value) (A:Around) (outer:List Env) (s:Shared) (H:Hp) (vs:List V) (Q:VK) (E:XK),Room k (A.deeper (envOfC x (defScope st) s.heap.objs.size f cdv))->sp vs H Q E->
    ∃t,PSs (cB P w K mg base N x (defScope st) f cdv A outer s H E) (defBody st) t∧t { nx:=fun _ H'=>Q .non H',rt:=Q } (start N vs) H):DefC P w K mg base (k+1) x ps sp:=by
 obtain⟨f,fd,F,m⟩:=D.ex
 exact⟨f,fd,MF F S len (hbody f),F.binds hb,F.kp,m⟩
end
theorem gO:Passes (mO P w) X E0:=fun _ _ _ _ _ _ _ h=>by
 obtain⟨_,_,_,_,_,_,_,_,_,_,_,_,_,q⟩:=h
 exact q.elim
section
variable{X:Cx}{j k:Nat}{ps:List Str}{sp:Sp}{x:Str}{p pos:Pos}{e:Expr}{es:List Expr}{t:TA}{E:XK}
theorem Gu(D:DefC X.prog X.w X.K X.mg X.base j x ps sp)(hr:Room k X.A)(hx:Passes (mO X.prog X.w) X E)(ha:PA X (e::es) t)(hjk:j≤k:=by decide)(hg:Gl X x:=by rfl)(hdb:(x==("__debug__":Str))=false:=by decide)
  (he:starEach (e::es) X.env=(false,eval e X.env)::starEach es X.env:=by rfl) (hpl:(backTo pos (starEach es X.env)).any (·.1)=false:=by rfl) :
  PE X (.Call (.Name x p) (e::es) [] pos) (tCall sp [] E t):=by
 obtain⟨f,fd,F,b,kp,m⟩:=D.ex
 exact pe_call F (hr.mono hjk) hg m kp b .nil hx ha hdb he hpl
end
section
variable{κ:Type}[DecidableEq κ]
def putK(kvs:List (κ×V))(k:κ)(v:V):List (κ×V):=
 if (kvs.any fun kv=>decide (kv.1=k))=true then kvs.map (fun kv=>if kv.1=k then (kv.1,v) else kv) else kvs++[(k,v)]
theorem length_putK(kvs:List (κ×V))(k:κ)(v:V):(putK kvs k v).length≤kvs.length+1:=by
 unfold putK
 split
 ·rw[List.length_map];lia
 ·rw[List.length_append,List.length_cons,List.length_nil];lia
theorem KV.any(r:KV kvs vs)(k:κ):(kvs.any fun kv=>decide (kv.1=k))=vs.any fun kv=>decide (kv.1=k):=by
 unfold KV at r
 induction r with
 |nil=>rfl
 |cons h t ih=>rw[List.any_cons,List.any_cons,ih,h.1]
theorem KV.repl (r:KV kvs vs) (k:κ) (ry:RelV y u) :
  KV (kvs.map fun kv=>if kv.1=k then (kv.1,y) else kv) (vs.map fun kv=>if kv.1=k then (kv.1,u) else kv):=by
 unfold KV at r ⊢
 induction r with
 |nil=>exact .nil
 | @cons p q ps qs h t ih=>
   rw[List.map_cons,List.map_cons]
   refine .cons ?_ ih
   obtain⟨h1,h2⟩:=h
   by_cases e:p.1=k
   ·rw[if_pos e,if_pos (h1.symm.trans e)];exact⟨h1,ry⟩
   ·rw[if_neg e,if_neg (fun z=>e (h1.trans z))];exact⟨h1,h2⟩
theorem KV.put(r:KV kvs vs)(k:κ)(ry:RelV y u):KV (putK kvs k y) (stored vs k u):=by
 unfold putK stored
 rw[r.any k]
 by_cases e:(vs.any fun kv=>decide (kv.1=k))=true
 ·rw[if_pos e,if_pos e];exact r.repl k ry
 ·rw[if_neg e,if_neg e];exact Paired.snoc r ⟨rfl,ry⟩
end
theorem kV_is(r:RelV (kV k) u):(mixKind P w).is k u=true:=by
 cases k with
 |inl i=>obtain⟨t,e⟩:=(show ∃t,u=Value.int i t from r);subst e;exact mixKind_int P w i t
 |inr x=>obtain⟨t,e⟩:=(show ∃t,u=Value.str x t from r);subst e;exact mixKind_str P w x t
section
variable{P:Program}{w:World}{H:Hp}{h:Heap}{a:Addr}
theorem rd_of(ok:HOk P w H h)(e:Rd H a u):ObjOk P w H h a u:=e.ok ok
theorem dk_rd(ok:HOk P w H h)(e:Rd H a (.dK kvs)):kvs.length≤sizeLine∧(a==sysModules)=false∧∃vs,KV kvs vs∧h.DictOf (mixKind P w) a vs:=
 show ObjOk P w H h a (.dK kvs) from rd_of ok e
theorem dk_of(ok:HOk P w H h)(e:H a=some (.dK kvs)):kvs.length≤sizeLine∧(a==sysModules)=false∧∃vs,KV kvs vs∧h.DictOf (mixKind P w) a vs:=dk_rd ok (.inl e)
end
section
variable{X:Cx}{pins:List (Addr×Obj)}{σ:St}{H:Hp}{s:Shared}{a:Addr}{y v:V}{u r:Value}{o:Option V}{A:Around}{E:Value->Shared->Prop}
theorem Inv.big(I:Inv X pins σ H s):sysModules<s.heap.objs.size:=by
 have h:mainGlobals<s.heap.objs.size:=(I.mod.glob.keeps I.bk).lt
 exact Nat.lt_trans (by decide) h
theorem d_write(I:Inv X pins σ H s)(mu:Mut (H a))(hs:Heap.SameBut a s.heap h')(he:∃q,h'.get? a=some q)(new:ObjOk X.prog X.w (upd H a ob) h' a ob) :
  Inv X pins σ (upd H a ob) { s with heap:=h',toks:=t' }:=
 I.write (x:=a) (e:=a) mu (.inl rfl) (fun b q hb z=>(hs.2 b hb).trans z) he new
theorem dk_new(z:kvs.length≤sizeLine)(hd:(a==sysModules)=false)(rel:KV kvs vs)(dd:h'.DictOf (mixKind P w) a vs) :
  ObjOk P w H' h' a (.dK kvs):=⟨z,hd,vs,rel,dd⟩
end
theorem dk_empty(h:Heap)(hb:sysModules<h.objs.size):ObjOk P w H (h.push { cls:=.type "dict",data:=.dict #[] }) h.objs.size (.dK []):=
 ⟨Nat.zero_le _,beq_eq_false_iff_ne.mpr (Ne.symm (Nat.ne_of_lt hb)),[],.nil,Heap.DictOf.new h⟩
def tDNewK:TE:=fun _ H Q=>∀p,H p=none->Q (.ref p) (upd H p (.dK []))
section
variable{X:Cx}{pos:Pos}
theorem pe_dnewK:PE X (.Dict [] [] pos) tDNewK:=fun pins s σ H Q I h=>
 wpAny_Dict_empty ⟨.ref s.heap.objs.size,_,I.laid (a:=s.heap.objs.size) (o:=.dK []) (t':=s.toks) (fun _ _ q=>Heap.get?_push_of_some _ q) (Nat.le_refl _) (dk_empty s.heap I.big),rfl,h _ (I.hok.fresh (Nat.le_refl _))⟩
end
def tPairs:List (TE×TE)->St->Hp->(List (V×V)->Hp->Prop)->Prop
 |[],_,H,Q=>Q [] H
 |(tk,tv)::r,σ,H,Q=>tk σ H fun x H1=>tv σ H1 fun y H2=>tPairs r σ H2 fun ps H3=>Q ((x,y)::ps) H3
abbrev VV:List (V×V)->List (Value×Value)->Prop:=Paired fun p q=>RelV p.1 q.1∧RelV p.2 q.2
def PPs (X:Cx) (pos:Pos) (keys:List (Option Expr)) (values:List Expr) (trs:List (TE×TE)):Prop:=
 ∀(pins:List (Addr×Obj)) (s:Shared) (σ:St) (H:Hp) (Q:List (V×V)->Hp->Prop),Inv X pins σ H s->tPairs trs σ H Q->
   wpAny (model X.prog X.w) X.A (evalPairs (pairTrees keys values X.env pos)) (fun vs s'=>∃ps H',Inv X pins σ H' s'∧VV ps vs∧Q ps H') X.xe s
theorem pps_nil:PPs X pos [] [] []:=fun pins s σ H Q I h=>pairTrees_nil_walk ⟨[],H,I,.nil,h⟩
theorem pps_cons(hk:PE X k tk)(hv:PE X v tv)(hr:PPs X pos ks vs trs) :
  PPs X pos (some k::ks) (v::vs) ((tk,tv)::trs):=fun pins s σ H Q I h=>
 pairTrees_cons_walk (thn (hk pins s σ H _ I h) fun u s1 ⟨x,H1,I1,rx,q1⟩=>thn (hv pins s1 σ H1 _ I1 q1) fun w2 s2 ⟨y,H2,I2,ry,q2⟩=>
  thn (hr pins s2 σ H2 _ I2 q2) fun ws s3 ⟨ps,H3,I3,rel,q3⟩=>⟨(x,y)::ps,H3,I3,.cons ⟨rx,ry⟩ rel,q3⟩)
def mergeK(kvs more:List (Key×V)):List (Key×V):=more.foldl (fun acc kv=>putK acc kv.1 kv.2) kvs
theorem KV.merge:∀ {more:List (Key×V)}{rs:List (Key×Value)}{kvs:List (Key×V)}{vs:List (Key×Value)},KV more rs->KV kvs vs->KV (mergeK kvs more) (merged vs rs):=by
 intro more rs kvs vs r
 unfold KV at r
 induction r generalizing kvs vs with
 |nil=>intro q;exact q
 | @cons p q ps qs h t ih=>
   intro r0
   have e:KV (putK kvs p.1 p.2) (stored vs q.1 q.2):=by
    have:=r0.put p.1 h.2
    rw[←h.1];exact this
   exact ih e
theorem length_mergeK:∀ (more kvs:List (Key×V)),(mergeK kvs more).length≤kvs.length + more.length
 |[],kvs=>by show kvs.length≤kvs.length+0;lia
 |p::r,kvs=>by
   have h1:=length_mergeK r (putK kvs p.1 p.2)
   have h2:=length_putK kvs p.1 p.2
   show (mergeK (putK kvs p.1 p.2) r).length≤_
   rw[List.length_cons];lia
theorem carries_of:∀ {kvs:List (Key×V)}{ws:List (Value×Value)},VV (kvs.map fun kv=>(kV kv.1,kv.2)) ws->∃ rs,Carries (mixKind P w) ws rs∧KV kvs rs
 |[],_,r=>by rw[List.map_nil] at r;cases r;exact⟨[],True.intro,.nil⟩
 | p::kvs,_,r=>by
   rw[List.map_cons] at r
   cases r with
   | @cons a b as bs h t=>
     obtain⟨rs,c,q⟩:=carries_of (P:=P) (w:=w) t
     obtain⟨b1,b2⟩:=b
     exact⟨(p.1,b2)::rs,⟨kV_is h.1,rfl,c⟩,.cons ⟨rfl,h.2⟩ q⟩
def tDisp(trs:List (TE×TE)):TE:=fun σ H Q=>∀p,H p=none->tPairs trs σ (upd H p (.dK [])) fun ps H2=>H2 p=some (.dK [])∧∃kvs:List (Key×V),ps=kvs.map (fun kv=>(kV kv.1,kv.2))∧kvs.length≤15∧Q (.ref p) (upd H2 p (.dK (mergeK [] kvs)))
theorem pe_disp(h:PPs X pos keys values trs)(hall:keys.all (·.isSome)=true)(hl:keys.length=values.length)(h0:keys≠[])
  (h15:keys.length≤15):PE X (.Dict keys values pos) (tDisp trs):=by
 intro pins s σ H Q I q
 have hn:=I.hok.fresh (Nat.le_refl s.heap.objs.size)
 have I1:=I.laid (a:=s.heap.objs.size) (o:=.dK []) (h':=s.heap.push { cls:=.type "dict",data:=.dict #[] }) (t':=s.toks) (fun _ _ q=>Heap.get?_push_of_some _ q) (Nat.le_refl _) (dk_empty s.heap I.big)
 refine wpAny_Dict_walk (knd:=mixKind X.prog X.w) hall hl h0 h15 (thn (h pins _ σ _ _ I1 (q _ hn)) fun ws s2 ⟨ps,H2,I2,rel,e,kvs,ep,lk,q2⟩=>?_)
 subst ep
 obtain⟨rs,c,rk⟩:=carries_of (P:=X.prog) (w:=X.w) rel
 obtain⟨z,hd,vs0,r0,dd⟩:=dk_of I2.hok e
 cases r0
 refine⟨rs,c,dd,fun h' dd' hs=>⟨.ref s.heap.objs.size,_,?_,rfl,q2⟩⟩
 have hz:(mergeK [] kvs).length≤sizeLine:=by
  have h1:=length_mergeK kvs []
  rw[List.length_nil] at h1
  rw[sizeLine_eq];lia
 have he:∃q,h'.get? s.heap.objs.size=some q:=let ⟨q,_,_,hq,_⟩:=dd';⟨q,hq⟩
 exact d_write I2 (by rw[e];exact True.intro) hs he (dk_new hz hd (rk.merge .nil) dd')
end L2
namespace HT
open PySem PySem.Spec PyProof.Rows PySem.W
section
variable{prog:Program}{w:World}{A:Around}{E:Value->Shared->Prop}{s:Shared}
theorem Fj {vs ws:List Value}{Q:Value->Shared->Prop} (ht:IsTup s.heap t vs.toArray) (hb:IsTup s.heap b ws.toArray) (hv:vs=[])
  (h1:Q (.ref b) s):wpAny (model prog w) A (binaryOp .Add (.ref t) (.ref b)) Q E s:=by
 obtain⟨⟨cls,dd,data,sl⟩,ho,hc,n,hd⟩:=id ht
 obtain⟨⟨cls2,dd2,data2,sl2⟩,ho2,hc2,n2,hd2⟩:=id hb
 simp only at hc hd hc2 hd2
 subst hc hd hc2 hd2
 exact concat_meets ⟨_,ho,rfl⟩ ⟨_,ho2,rfl⟩ noFill_tuple_add seq_tuple_add PySem.F.slot_tuple_add PySem.F.entry_tuple_add (PySem.F.args_tuple_add_2 _ _)
   (tuple_addW0 t b vs.toArray ws.toArray n n2 dd dd2 sl sl2 (by simp[hv])) ⟨ho,ho2,h1⟩
theorem qQ{items:Array Value}{lo hi:Option Int}{Q:Value->Shared->Prop}(ht:IsTup s.heap t items)(hs:s.heap.IsSliceOf sl vl vu .none)(pl:IsPart vl lo)(pu:IsPart vu hi)
  (hw:sIx items.size 0 lo=0∧sIx items.size items.size hi=items.size) (h:Q (.ref t) s):wpAny (model prog w) A (getItem (.ref t) (.ref sl)) Q E s:=by
 obtain⟨os,hos,hcs,hds⟩:=id hs
 obtain⟨ot,hot,hct,nt,hdt⟩:=id ht
 have hTs:s.TypeIs (.ref sl) "slice":=⟨os,hos,hcs⟩
 have hTt:s.TypeIs (.ref t) "tuple":=⟨ot,hot,hct⟩
 unfold getItem
 try with_reducible refine wpAny_holding ?_
 first | refine wpAny_bind (wpAny_pure ?_) | skip
 refine wpAny_bind (wpAny_sequenceKey ht.typeIs (by decide) ?_)
 refine wpAny_bind (wpAny_callSpecial?_slot (name:=Str.ofString "__getitem__") ht.typeIs PyProof.Rows.slot_tuple_getitem
  (wpAny_call_entry PyProof.Rows.slot_tuple_getitem ht.typeIs entry_tuple_getitem ?_ (args_tuple_getitem _ _)))
 show wpAny _ _ (Builtin.Tuple.tupleItemsOf (.ref t)>>=_) _ _ s
 refine wpAny_bind (tupleItemsOf_ ht ?_)
 refine wpAny_bind (wpAny_typeOf hTs ?_)
 rw[if_pos (by decide)]
 refine wpAny_bind (sliceApplied_gen hs pl pu ?_)
 have hno:((((sIx items.size 0 lo:Nat):Int)==0&&(1:Int)==1&&(sIx items.size items.size hi-sIx items.size 0 lo)==items.size)=true):=by
  rw[hw.1,hw.2];simp
 show wpAny _ _ (if (((sIx items.size 0 lo:Nat):Int)==0&&(1:Int)==1&&(sIx items.size items.size hi-sIx items.size 0 lo)==items.size)=true then _ else _) _ _ s
 rw[if_pos hno]
 unfold Builtin.Tuple.tupleIsExact
 refine wpAny_bind ?_
 refine wpAny_bind (wpAny_typeOf hTt (wpAny_pure ?_))
 rw[if_pos (by decide)]
 exact wpAny_bind (wpAny_rule (wpAny_pure ⟨_,rfl,wpAny_pure h⟩))
end
end HT
namespace L2
open PySem PySem.Spec PyProof.Rows
section
variable{X:Cx}
theorem Fw{xs:List V}{lo hi:Option Int}(h:HT.sIx xs.length 0 lo=0∧HT.sIx xs.length xs.length hi=xs.length):cutV xs lo hi=xs:=by
 unfold cutV
 rw[h.1,h.2]
 simp
def Nu:V->Option Int->Option Int->Hp->VK->Prop:=fun x lo hi H Q=>∃a xs,x=.ref a∧H a=some (.tup xs)∧∀p H',Same H H'->H' p=some (.tup (cutV xs lo hi))->Q (.ref p) H'
theorem Iu:SlR X Nu:=by
 intro pins s σ H x v vl vu lo hi sl Q I rx hs pl pu h
 obtain⟨a,xs,rfl,hx,q⟩:=h
 by_cases hw:HT.sIx xs.length 0 lo=0∧HT.sIx xs.length xs.length hi=xs.length
 ·cases rx
  obtain⟨its,r,ht,hz⟩:=I.tuple (SqT.of hx)
  have hlen:its.toArray.size=xs.length:=by rw[List.size_toArray];exact r.length.symm
  refine⟨"tuple",_,PyProof.Rows.slot_tuple_getitem.lookup,ht.typeIs,?_⟩
  refine HT.qQ ht hs pl pu (by rw[hlen];exact hw) ⟨.ref a,H,I,rfl,q a H (Same.refl _) (by rw[Fw hw];exact hx)⟩
 ·exact sl_tup (X:=X) pins s σ H _ v vl vu lo hi sl Q I rx hs pl pu ⟨a,xs,rfl,SqT.of hx,hw,fun p hp=>q p _ (same_new hp _) upd_same⟩
def LQ:R2:=fun x y H Q=>∃a b xs ys,x=.ref a∧y=.ref b∧H a=some (.tup xs)∧H b=some (.tup ys)∧xs.length+ys.length≤sizeLine∧∀p H',Same H H'->H' p=some (.tup (xs++ys))->Q (.ref p) H'
theorem Ia:OpR X (binaryOp .Add) LQ:=by
 intro pins s σ H x y v u Q I rx ry h
 obtain⟨a,b,xs,ys,rfl,rfl,ha,hb,hz,q⟩:=h
 by_cases hx:xs=[]
 ·cases rx
  cases ry
  obtain⟨its,r1,p1,_⟩:=I.tuple (SqT.of ha)
  obtain⟨its2,r2,p2,_⟩:=I.tuple (SqT.of hb)
  exact HT.Fj p1 p2 (r1.nil_iff.mpr hx) ⟨.ref b,H,I,rfl,q b H (Same.refl _) (by rw[hx,List.nil_append];exact hb)⟩
 ·exact op_catT (X:=X) pins s σ H _ _ v u Q I rx ry ⟨a,b,xs,ys,rfl,rfl,SqT.of ha,SqT.of hb,hx,hz,fun e=>q a H (Same.refl _) (by rw[e,List.append_nil];exact ha),fun _ p hp=>q p _ (same_new hp _) upd_same⟩
end
mutual
inductive RepF(H:Hp):Bool->V->PyData->Prop
 |non {f:Bool}:RepF H f .non .none
 |bl {f:Bool} (b:Bool):RepF H f (.bl b) (.bool b)
 |int {f:Bool} (i:Int):RepF H f (.int i) (.int i)
 |str {f:Bool} (x:Str):RepF H f (.str x) (.str x)
 |lst {f:Bool}{a:Addr}{xs:List V}{ds:List PyData}:H a=some (.lst xs)->RepsF H f xs ds->RepF H f (.ref a) (.list ds)
 |tup {f:Bool}{a:Addr}{xs:List V}{ds:List PyData}:H a=some (.tup xs)->RepsF H f xs ds->RepF H f (.ref a) (.tuple ds)
 |d0 {a:Addr}:H a=some (.dK [])->RepF H false (.ref a) (.dict [])
 |d1 {a:Addr}{i j:Int}:H a=some (.dK [(.inl i,.int j)])->RepF H false (.ref a) (.dict [(.int i,.int j)])
inductive RepsF(H:Hp):Bool->List V->List PyData->Prop
 |nil {f:Bool}:RepsF H f [] []
 |cons {f:Bool}{v:V}{d:PyData}{vs:List V}{ds:List PyData}:RepF H f v d->RepsF H f vs ds->RepsF H f (v::vs) (d::ds)
end
section
variable{X:Cx}{pins:List (Addr×Obj)}{σ:St}{H:Hp}{s:Shared}
theorem HR {P:Program}{w:World}{i:Int}{v:Value} (h:(mixKind P w).is (.inl i) v=true):∃ t,v=.int i t:=by
 cases v with
 | int a t=>
   have e:decide (i=a)=true∨decide (a=i)=true∨(a==i)=true∨(i==a)=true:=by
    first | exact .inl h | exact .inr (.inl h) | exact .inr (.inr (.inl h)) | exact .inr (.inr (.inr h))
   have:a=i:=by rcases e with e | e | e | e<;>simp at e<;>lia
   exact⟨t,by rw[this]⟩
 |_=>first | cases h | (simp[mixKind] at h)
mutual
theorem RepF.reads (I:Inv X pins σ H s):∀ {f:Bool}{v:V}{d:PyData}{u:Value},RepF H f v d->RelV v u->∃ as,Reads s.heap u d as∧((∃ l,d=.dict l)->sysModules∉as)
 |_,_,_,_,.non,r=>by cases r;exact⟨_,.none,fun _=>by simp⟩
 |_,_,_,_,.bl b,r=>by cases r;exact⟨_,.bool b,fun _=>by simp⟩
 |_,_,_,_,.int i,r=>by obtain⟨t,rfl⟩:=r;exact⟨_,.int i t,fun _=>by simp⟩
 |_,_,_,_,.str x,r=>by obtain⟨t,rfl⟩:=r;exact⟨_,.str x t,fun _=>by simp⟩
 |_,_,_,_,.lst h hs,r=>by
   cases r
   obtain⟨its,rv,⟨o,n,h1,h2,_,h3⟩,_⟩:=I.list (SqL.of h)
   obtain⟨as,ra⟩:=RepsF.reads I hs rv
   exact⟨_,.list h1 h2 h3 ra,fun z=>nomatch z⟩
 |_,_,_,_,.tup h hs,r=>by
   cases r
   obtain⟨its,rv,⟨o,h1,h2,n,h3⟩,_⟩:=I.tuple (SqT.of h)
   obtain⟨as,ra⟩:=RepsF.reads I hs rv
   exact⟨_,.tuple h1 h2 h3 ra,fun z=>nomatch z⟩
 | _,_,_,_,.d0 (a:=a) h,r=>by
   cases r
   obtain⟨_,hd,vs,r0,⟨o,es,ep,h1,h2,h3,h4,h5,h6⟩⟩:([]:List (Key×V)).length≤sizeLine∧(a==sysModules)=false∧∃vs,KV [] vs∧s.heap.DictOf (mixKind X.prog X.w) a vs:=I.hok a _ h
   cases r0
   have he:es.toList=[]:=by cases hx:es.toList with
    |nil=>rfl
    |cons e es'=>rw[hx] at h5;cases h5
   refine⟨_,.dict (kvs:=[]) h1 h2.1 h3 (by rw[he];exact .nil) (by rw[he];exact .nil),fun _=>?_⟩
   simp only[List.append_nil,List.mem_singleton]
   exact fun z=>(beq_eq_false_iff_ne.mp hd) z.symm
 | _,_,_,_,.d1 (a:=a) (i:=i) (j:=j) h,r=>by
   cases r
   obtain⟨_,hd,vs,r0,⟨o,es,ep,h1,h2,h3,h4,h5,h6⟩⟩:([(Sum.inl i,V.int j)]:List (Key×V)).length≤sizeLine∧(a==sysModules)=false∧∃vs,KV [(Sum.inl i,V.int j)] vs∧s.heap.DictOf (mixKind X.prog X.w) a vs:=I.hok a _ h
   cases r0 with
   | @cons p q ps qs hq t=>
     cases t
     obtain⟨e1,tv,e2⟩:=hq
     obtain⟨q1,q2⟩:=q
     dsimp only at e1 e2
     subst e1 e2
     generalize hx:es.toList=el at h5
     cases h5 with
     |cons g1 g2 g3=>
       cases g3
       rename_i e
       obtain⟨tk,ek⟩:=HR g1
       dsimp only at g2
       refine⟨_,.dict (kvs:=[(.int i,.int j)]) h1 h2.1 h3 (as:=[]++[]) (bs:=[]++[]) (by rw[hx];exact .cons (by show Reads _ e.key _ _;rw[ek];exact .int i tk) .nil) (by rw[hx];exact .cons (by show Reads _ e.val _ _;rw[g2];exact .int j tv) .nil),fun _=>?_⟩
       simp only[List.append_nil,List.mem_singleton]
       exact fun z=>(beq_eq_false_iff_ne.mp hd) z.symm
theorem RepsF.reads (I:Inv X pins σ H s):∀ {f:Bool}{vs:List V}{ds:List PyData}{us:List Value},RepsF H f vs ds->Vals vs us->∃ as,ReadsAll s.heap us ds as
 |_,_,_,_,.nil,r=>by cases r;exact⟨_,.nil⟩
 | _,_,_,_,.cons h hs,r=>by
   cases r with
   |cons r1 r2=>
     obtain⟨a1,e1,_⟩:=RepF.reads I h r1
     obtain⟨a2,e2⟩:=RepsF.reads I hs r2
     exact⟨_,.cons e1 e2⟩
end
theorem wJ{a:Addr}{d:PyData}{as bs:List Addr}{n:Nat}(r:Reads s.heap (.ref a) d as)(hd:d.depth=n+1)(hb:ReadAtMost s.heap n bs):a∉bs∧ReadAtMost s.heap d.depth (a::bs):=
 ⟨not_mem_of_deeper r (by lia) hb,hd ▸ ReadAtMost.cons r (by lia) hb⟩
mutual
theorem RepF.k (I:Inv X pins σ H s):∀ {f:Bool}{v:V}{d:PyData}{u:Value},RepF H f v d->RelV v u->d.showable=true->d.shown.length≤sizeLine->∃ bs,ReadAtMost s.heap d.depth bs∧ReprK X.prog X.w bs s.heap d.depth u d.shown
 |_,_,_,_,.non,r,hs,hz=>by obtain⟨as,ra,_⟩:=RepF.reads (f:=true) I .non r;exact ReprK.of_reads ra hs (fun z=>by simp[PyData.hasDict] at z) hz
 |_,_,_,_,.bl b,r,hs,hz=>by obtain⟨as,ra,_⟩:=RepF.reads (f:=true) I (.bl b) r;exact ReprK.of_reads ra hs (fun z=>by simp[PyData.hasDict] at z) hz
 |_,_,_,_,.int i,r,hs,hz=>by obtain⟨as,ra,_⟩:=RepF.reads (f:=true) I (.int i) r;exact ReprK.of_reads ra hs (fun z=>by simp[PyData.hasDict] at z) hz
 |_,_,_,_,.str x,r,hs,hz=>by obtain⟨as,ra,_⟩:=RepF.reads (f:=true) I (.str x) r;exact ReprK.of_reads ra hs (fun z=>by simp[PyData.hasDict] at z) hz
 |_,_,_,_,.d0 h,r,hs,hz=>by obtain⟨as,ra,n⟩:=RepF.reads I (.d0 h) r;exact ReprK.of_reads ra hs (fun _=>n ⟨_,rfl⟩) hz
 |_,_,_,_,.d1 h,r,hs,hz=>by obtain⟨as,ra,n⟩:=RepF.reads I (.d1 h) r;exact ReprK.of_reads ra hs (fun _=>n ⟨_,rfl⟩) hz
 | _,_,_,_,.lst (ds:=xs) h hs,r,hs',hz=>by
   cases r
   obtain⟨its,rv,⟨o,n,h1,h2,_,h3⟩,_⟩:=I.list (SqL.of h)
   obtain⟨as,ra⟩:=RepsF.reads I hs rv
   have hz':(listText (PyData.shownAll xs)).length≤sizeLine:=by simpa only[PyData.shown] using hz
   obtain⟨bs,hb,hk⟩:=RepsF.k I hs rv (by simpa only[PyData.showable] using hs') fun t ht=>Nat.le_trans (listText_mem_le ht) hz'
   obtain⟨hn,hc⟩:=wJ (.list h1 h2 h3 ra) (by simp only[PyData.depth]) hb
   refine⟨_,hc,?_⟩
   simp only[PyData.depth,PyData.shown]
   cases its with
   |nil=>
     cases ra
     simp only[PyData.shownAll,listText_nil]
     exact ReprK.listEmpty h1 h2 h3
   |cons x l=>exact ReprK.list h1 h2 h3 hn (by simpa using hk.length_eq) fun i y e=>hk.item i y (by simpa using e)
 |_,_,_,_,.tup (ds:=xs) h hs,r,hs',hz=>by
   cases r
   obtain⟨its,rv,⟨o,h1,h2,n,h3⟩,_⟩:=I.tuple (SqT.of h)
   obtain⟨as,ra⟩:=RepsF.reads I hs rv
   have hz':(tupleText (PyData.shownAll xs)).length≤sizeLine:=by simpa only[PyData.shown] using hz
   obtain⟨bs,hb,hk⟩:=RepsF.k I hs rv (by simpa only[PyData.showable] using hs') fun t ht=>Nat.le_trans (tupleText_mem_le ht) hz'
   obtain⟨hn,hc⟩:=wJ (.tuple h1 h2 h3 ra) (by simp only[PyData.depth]) hb
   refine⟨_,hc,?_⟩
   simp only[PyData.depth,PyData.shown]
   exact ReprK.tuple h1 h2 h3 hn hk
theorem RepsF.k (I:Inv X pins σ H s):∀ {f:Bool}{vs:List V}{ds:List PyData}{us:List Value},RepsF H f vs ds->Vals vs us->PyData.showableAll ds=true->(∀ t∈PyData.shownAll ds,t.length≤sizeLine)->∃ bs,ReadAtMost s.heap (PyData.depthAll ds) bs∧ReprAllK X.prog X.w bs s.heap (PyData.depthAll ds) us (PyData.shownAll ds)
 |_,_,_,_,.nil,r,_,_=>by cases r;exact⟨[],(fun _ h=>nomatch h),by simp only[PyData.shownAll];exact .nil⟩
 | _,_,_,_,.cons (d:=d) (ds:=ds) h hs,r,hs',hz=>by
   cases r with
   |cons r1 r2=>
     have hh:d.showable=true∧PyData.showableAll ds=true:=by simpa[PyData.showableAll] using hs'
     obtain⟨b1,q1,k1⟩:=RepF.k I h r1 hh.1 (hz _ (by simp only[PyData.shownAll];exact .head _))
     obtain⟨b2,q2,k2⟩:=RepsF.k I hs r2 hh.2 fun t ht=>hz t (by simp only[PyData.shownAll];exact .tail _ ht)
     simp only[PyData.depthAll,PyData.shownAll]
     exact⟨b1++b2,(q1.mono (Nat.le_max_left _ _)).append (q2.mono (Nat.le_max_right _ _)),.cons ((k1.more fun b hb=>List.mem_append_left _ hb).level_le (Nat.le_max_left _ _)) (k2.more_le (fun b hb=>List.mem_append_right _ hb) (Nat.le_max_right _ _))⟩
end
end
mutual
/-- the same,away from a -/
theorem RepF.toRep{K:PySem.W.Frag}{H:Hp}:∀{v:V}{d:PyData},RepF H true v d->Rep K H v d
 |_,_,.non=>.non
 |_,_,.bl b=>.bl b
 |_,_,.int i=>.int i
 |_,_,.str x=>.str x
 |_,_,.lst h hs=>.lst (SqL.of h) (RepsF.toReps hs)
 |_,_,.tup h hs=>.tup (SqT.of h) (RepsF.toReps hs)
theorem RepsF.toReps{K:PySem.W.Frag}{H:Hp}:∀{vs:List V}{ds:List PyData},RepsF H true vs ds->Reps K H vs ds
 |_,_,.nil=>.nil
 |_,_,.cons h hs=>.cons (RepF.toRep h) (RepsF.toReps hs)
end
mutual
def cQ:PyData->Nat
 |.none | .bool _=>5
 |.int _=>1921
 |.str x=>(reprText x).length
 |.list xs | .tuple xs=>lM xs+3
 |.dict _=>8000
def lM:List PyData->Nat
 |[]=>0
 |x::xs=>cQ x+2+lM xs
end
theorem jz:∀xs:List PyData,(PyData.shownAll xs).length=xs.length
 |[]=>by simp only[PyData.shownAll,List.length_nil]
 |x::xs=>by simp only[PyData.shownAll,List.length_cons,jz xs]
mutual
theorem uy {H:Hp}:∀ {f:Bool}{v:V}{d:PyData},RepF H f v d->d.showable=true->d.shown.length≤cQ d
 |_,_,_,.non,_=>by simp only[PyData.shown,cQ];decide +kernel
 |_,_,_,.bl b,_=>by cases b<;>simp only[PyData.shown,cQ]<;>decide +kernel
 |_,_,_,.int i,h=>by
   have h':i.natAbs.log2<1920:=by simpa[PyData.showable] using h
   simp only[PyData.shown,cQ]
   exact int_text_len_1921 h'
 |_,_,_,.str x,_=>by simp only[PyData.shown,cQ];exact Nat.le_refl _
 |_,_,_,.lst (ds:=xs) _ hs,h=>by
   have:=jy hs (by simpa only[PyData.showable] using h)
   have l:=listText_len_le (PyData.shownAll xs)
   rw[jz] at l
   simp only[PyData.shown,cQ]
   lia
 |_,_,_,.tup (ds:=xs) _ hs,h=>by
   have:=jy hs (by simpa only[PyData.showable] using h)
   have l:=tupleText_len_le (PyData.shownAll xs)
   rw[jz] at l
   simp only[PyData.shown,cQ]
   lia
 |_,_,_,.d0 _,_=>by simp only[PyData.shown,PyData.shownKv,cQ];decide +kernel
 |_,_,_,.d1 (i:=i) (j:=j) _,h=>by
   have h':i.natAbs.log2<1920∧j.natAbs.log2<1920:=by simpa[PyData.showable,PyData.showableKv] using h
   have l1:=int_text_len_1921 h'.1
   have l2:=int_text_len_1921 h'.2
   have l:=dictText_len_le (PyData.shownKv [(.int i,.int j)])
   simp only[PyData.shown,cQ]
   refine Nat.le_trans l ?_
   simp only[PyData.shownKv,PyData.shown,List.map_cons,List.map_nil,List.sum_cons,List.sum_nil,List.length_cons,List.length_nil,strLen_append]
   have l3:(Str.ofString ": ").length=2:=by decide +kernel
   have l3':(": ":Str).length=2:=by decide +kernel
   lia
theorem jy {H:Hp}:∀ {f:Bool}{vs:List V}{xs:List PyData},RepsF H f vs xs->PyData.showableAll xs=true->((PyData.shownAll xs).map (·.length)).sum + 2 * xs.length≤lM xs
 |_,_,_,.nil,_=>by simp only[PyData.shownAll,List.map_nil,List.sum_nil,List.length_nil,lM];lia
 |_,_,_,.cons (d:=x) (ds:=xs) hx hs,h=>by
   have h':x.showable=true∧PyData.showableAll xs=true:=by simpa[PyData.showableAll] using h
   have a:=uy hx h'.1
   have b:=jy hs h'.2
   simp only[PyData.shownAll,List.map_cons,List.sum_cons,List.length_cons,lM]
   lia
end
section
variable{X:Cx}
def Ko:List V->Hp->VK->Prop:=fun xs H Q=>∃f v d,xs=[v]∧RepF H f v d∧d.showable=true∧d.depth≤60∧cQ d≤sizeLine∧Q (.str d.shown) H
theorem Am (hg:X.A.guards=some []) (hu:X.A.units + 64<cLine):CallR X (.builtin "repr") Ko:=by
 intro pins s σ H xs us Q I r h
 obtain⟨f,v,d,rfl,rd,ho,hd,hz,q⟩:=h
 have hz':=Nat.le_trans (uy rd ho) hz
 obtain⟨u,rfl,ru⟩:=vals1 r
 cases rd with
 |non=>cases ru;exact P.repr_of_none ⟨.str _,H,I.tok _,⟨_,rfl⟩,(by simpa only[PyData.shown] using q)⟩
 |bl b=>cases ru;exact P.repr_of_bool ⟨.str _,H,I.tok _,⟨_,rfl⟩,(by simpa only[PyData.shown] using q)⟩
 |int i=>
   obtain⟨t,rfl⟩:=ru
   exact P.repr_of_int (by simpa[PyData.showable] using ho) ⟨.str _,H,I.tok _,⟨_,rfl⟩,(by simpa only[PyData.shown] using q)⟩
 |str x=>
   obtain⟨t,rfl⟩:=ru
   exact P.repr_of_str ⟨.str _,H,I.tok _,⟨_,rfl⟩,(by simpa only[PyData.shown] using q)⟩ (by simpa only[PyData.shown] using hz')
 | lst h hs=>
   cases ru
   obtain⟨its,rv,⟨o,n,h1,h2,_,h3⟩,_⟩:=I.list (SqL.of h)
   obtain⟨as,ra⟩:=RepsF.reads I hs rv
   simp only[PyData.shown] at hz' q
   obtain⟨bs,hb,hk⟩:=RepsF.k I hs rv (by simpa only[PyData.showable] using ho) fun t ht=>Nat.le_trans (listText_mem_le ht) hz'
   simp only[PyData.depth] at hd
   refine call_repr_slot (by lia) ⟨_,h1,h2⟩ F.slot_list_repr.toG ?_
   cases its with
   |nil=>
     cases ra
     simp only[PyData.shownAll,listText_nil] at q
     exact call_list_repr_empty ⟨o,h1,h2⟩ h1 h3 ⟨_,_,rfl,.str _,H,I.kept fun _ _ e=>e,⟨_,rfl⟩,q⟩
   |cons x l=>
     exact call_list_reprK h1 h2 h3 (wJ (.list h1 h2 h3 ra) (by simp only[PyData.depth]) hb).1 (by simpa using hk.length_eq) (fun i y e=>hk.item i y (by simpa using e)) hg (fun b _=>Clear.nil b) (by show X.A.units+1+_<_;lia) (fun _ _ e=>e) (fun h' u tk hk=>⟨_,_,rfl,.str _,H,I.kept hk,⟨_,rfl⟩,q⟩) hz'
 |tup h hs=>
   cases ru
   obtain⟨its,rv,⟨o,h1,h2,n,h3⟩,_⟩:=I.tuple (SqT.of h)
   obtain⟨as,ra⟩:=RepsF.reads I hs rv
   simp only[PyData.shown] at hz' q
   obtain⟨bs,hb,hk⟩:=RepsF.k I hs rv (by simpa only[PyData.showable] using ho) fun t ht=>Nat.le_trans (tupleText_mem_le ht) hz'
   simp only[PyData.depth] at hd
   refine call_repr_slot (by lia) ⟨_,h1,h2⟩ F.slot_tuple_repr ?_
   exact call_tuple_reprK h1 h2 h3 (wJ (.tuple h1 h2 h3 ra) (by simp only[PyData.depth]) hb).1 hk hg (fun b _=>Clear.nil b) (by show X.A.units+1+_<_;lia) (fun _ _ e=>e) (fun h' u tk hk=>⟨_,_,rfl,.str _,H,I.kept hk,⟨_,rfl⟩,q⟩) hz'
 |d0 h=>
   obtain⟨as,ra,nn⟩:=RepF.reads I (.d0 h) ru
   cases ru
   exact repr_of_reads' ra ho (fun _=>nn ⟨_,rfl⟩) hg (by lia) (fun _ _ e=>e) (fun h' u tk hk=>⟨.str _,H,I.kept hk,⟨_,rfl⟩,q⟩) hz'
 |d1 h=>
   obtain⟨as,ra,nn⟩:=RepF.reads I (.d1 h) ru
   cases ru
   exact repr_of_reads' ra ho (fun _=>nn ⟨_,rfl⟩) hg (by lia) (fun _ _ e=>e) (fun h' u tk hk=>⟨.str _,H,I.kept hk,⟨_,rfl⟩,q⟩) hz'
end
theorem Nr(hc:CallR X (.type T) r)(hm:X.mg x=none)(ha:PA X (e::es) t)(hg:Gl X x:=by rfl)(hv:bootBuiltins x=some (.type T):=by decide +kernel)(hn:x≠"__name__":=by decide)(hdb:(x==("__debug__":Str))=false:=by decide)
  (he:starEach (e::es) X.env=(false,eval e X.env)::starEach es X.env:=by rfl) (hpl:(backTo pos (starEach es X.env)).any (·.1)=false:=by rfl) :
  PE X (.Call (.Name x p) (e::es) [] pos) (tCB r t):=pe_callTy hc hg hm hv ha hn hdb he hpl
def notStar:Expr->Bool
 |.Starred _ _=>false
 |_=>true
theorem b7(h:notStar e=true):starEach (e::es) env=(false,eval e env)::starEach es env:=by
 cases e<;>first | rfl | cases h
theorem Np(ha:PE X e te)(hr:PA X es t)(hs:notStar e=true:=by rfl):PA X (e::es) (tCons te t):=pa_cons ha hr (b7 hs)
structure QI(X:Cx)(tg l:Expr)(wi:TI):Prop where
 h:PI X tg l wi
structure QA(X:Cx)(es:List Expr)(t:TA):Prop where
 h:PA X es t
theorem Km:QA X [] tNil:=⟨pa_nil⟩
theorem Nt(ha:PE X e te)(hr:QA X es t)(hs:notStar e=true:=by rfl):QA X (e::es) (tCons te t):=⟨Np ha hr.h hs⟩
section
variable{X:Cx}{j k:Nat}{ps:List Str}{sp:Sp}{x:Str}{p pos:Pos}{e:Expr}{es:List Expr}{t:TA}{E:XK}
theorem Ij{x1}(h:QA X es t):PE X (.Tuple es x1 pos) (tTup t):=pe_tup h.h
theorem zR(h:QA X es t):PE X (.List es pos) (tLst t):=pe_lst h.h
theorem Dy(D:DefC X.prog X.w X.K X.mg X.base j x ps sp)(hr:Room k X.A)(hx:Passes (mO X.prog X.w) X E)(ha:QA X (e::es) t)(hjk:j≤k:=by decide)(hg:Gl X x:=by rfl)(hdb:(x==("__debug__":Str))=false:=by decide)
  (he:notStar e=true:=by rfl) (hpl:(backTo pos (starEach es X.env)).any (·.1)=false:=by rfl) :
  PE X (.Call (.Name x p) (e::es) [] pos) (tCall sp [] E t):=Gu D hr hx ha.h hjk hg hdb (b7 he) hpl
theorem Lx{id:String}{r:List V->Hp->VK->Prop}(hc:CallR X (.builtin id) r)(hm:X.mg x=none)(ha:QA X (e::es) t)(hg:Gl X x:=by rfl)(hv:bootBuiltins x=some (.builtin id):=by decide +kernel)(hn:x≠"__name__":=by decide)(hdb:(x==("__debug__":Str))=false:=by decide)
  (he:notStar e=true:=by rfl) (hpl:(backTo pos (starEach es X.env)).any (·.1)=false:=by rfl) :
  PE X (.Call (.Name x p) (e::es) [] pos) (tCB r t):=Nq hc hm ha.h hg hv hn hdb (b7 he) hpl
theorem Lz(hc:CallR X (.type T) r)(hm:X.mg x=none)(ha:QA X (e::es) t)(hg:Gl X x:=by rfl)(hv:bootBuiltins x=some (.type T):=by decide +kernel)(hn:x≠"__name__":=by decide)(hdb:(x==("__debug__":Str))=false:=by decide)
  (he:notStar e=true:=by rfl) (hpl:(backTo pos (starEach es X.env)).any (·.1)=false:=by rfl) :
  PE X (.Call (.Name x p) (e::es) [] pos) (tCB r t):=Nr hc hm ha.h hg hv hn hdb (b7 he) hpl
theorem J8 {T name id:String}{r:V->List V->Hp->VK->Prop}{o:Expr}{to:TE}{apos cpos:Pos} (pa:PlainAttrs T) (slot:Slot T name id) (hty:typeOf (.builtin id)=pure (.type "method_descriptor")) (hm:MtR X id r) (ho:PE X o to) (ha:QA X (e::es) t)
  (hbase:attributeBase o name X.env (eval o X.env)=eval o X.env:=by rfl)
  (hfew:((backTo cpos (starEach (e::es) X.env)).all (fun x=>!x.1)&&(backToKw cpos (keywordEach [] X.env)).all (fun x=>x.1.isSome)
   &&decide ((e::es).length+([]:List Keyword).length+(if ([]:List Keyword).isEmpty then 0 else 1)<30))=true:=by rfl)
  (hline:(apos.endLine==cpos.line)=true:=by rfl) (hs:notStar e=true:=by rfl) (hplain:(backTo cpos (starEach es X.env)).any (·.1)=false:=by rfl) :
  PE X (.Call (.Attribute o name apos) (e::es) [] cpos) (tBM X.K T r to t):=pe_bm pa slot hty hm ho ha.h hbase hfew hline (b7 hs) hplain
theorem Bf(hg:Gl X "range")(hm:X.mg "range"=none)(ha:QA X [a] ta)(hs:notStar a=true:=by rfl):QI X tg (.Call (.Name "range" p) [a] [] pos) (iRng1 ta):=⟨pi_range1 hg hm ha.h (b7 hs)⟩
theorem Bg(hg:Gl X "range")(hm:X.mg "range"=none)(ha:QA X [a,b] ta)(hs:notStar a=true:=by rfl)(hs2:notStar b=true:=by rfl):QI X tg (.Call (.Name "range" p) [a,b] [] pos) (iRng2 ta):=
 ⟨pi_range2 hg hm ha.h ((b7 hs).trans (by rw[b7 hs2];rfl)) (b7 hs2)⟩
end
def wX{α:Type}(P:α->Prop):List α->Prop
 |[]=>True
 |a::l=>P a∧wX P l
theorem nQ:∀ {l:List α},wX P l->∀ a∈l,P a
 |[],_,_,h=>nomatch h
 |b::l,h,a,hm=>by
   rcases List.mem_cons.mp hm with rfl | hm
   ·exact h.1
   ·exact nQ h.2 a hm
theorem mem_of_lookup:∀ {l:List (Str×β)},l.lookup y=some c->(y,c)∈l
 |[],h=>by cases h
 | (z,d)::l,h=>by
   rw[List.lookup_cons] at h
   split at h
   ·rename_i e
    have e':y=z:=by simpa using e
    cases h
    rw[e'];exact List.mem_cons_self ..
   ·exact List.mem_cons_of_mem _ (mem_of_lookup h)
theorem K4{cl cells:List (Str×Addr)}(h:wX (fun p=>cells.lookup p.1=some p.2) cl):∀y c,cl.lookup y=some c->cells.lookup y=some c:=fun y c e=>nQ h (y,c) (mem_of_lookup e)
def Gb:NameKind->Bool
 |.cell | .free=>true
 |_=>false
theorem Ju{names:List (Str×NameKind)}{cl:List (Str×Addr)}(h:(names.all fun p=>!Gb p.2 || (cl.lookup p.1).isSome)=true):∀y,(names.lookup y=some .cell∨names.lookup y=some .free)->∃c,cl.lookup y=some c:=fun y e=>by
 have hh:=List.all_eq_true.mp h
 rcases e with e | e
 ·have:=hh _ (mem_of_lookup e)
  simp only[Gb,Bool.not_true,Bool.false_or] at this
  exact Option.isSome_iff_exists.mp this
 ·have:=hh _ (mem_of_lookup e)
  simp only[Gb,Bool.not_true,Bool.false_or] at this
  exact Option.isSome_iff_exists.mp this
theorem Jp{js:List Nat}{fr:List Str}{P:Nat->Str->Prop}(h:wX (fun p:Nat×Str=>P p.1 p.2) (js.zip fr)):∀(k j:Nat) (y:Str),js[k]?=some j->fr[k]?=some y->P j y:=fun k j y h1 h2=>by
 refine nQ h (j,y) (List.mem_iff_getElem?.mpr ⟨k,?_⟩)
 rw[List.getElem?_zip_eq_some]
 exact⟨h1,h2⟩
section
variable{X:Cx}
theorem FW:entryFor table "tuple_iterator.__iter__"=some Builtin.«dict_keyiterator.__iter__»:=
 entryFor_alias (id' := "dict_keyiterator.__iter__") (by kernel_rfl) rfl (by decide +kernel) (by kernel_rfl)
theorem uK(hit:IsTupIter s.heap it t i)(h:Q (.ref it) s) :
  wpAny (model prog w) A (pyIter (.ref it)) Q E s:=by
 refine wpAny_pyIter_slot hit.typeIs F.slot_tuple_iterator_iter (wpAny_call_entry F.slot_tuple_iterator_iter hit.typeIs FW ?_ (F.args_tuple_iterator_iter_1 _))
 show wpAny _ _ (ret (.ref it)) _ _ s
 exact wpAny_pure ⟨_,rfl, "tuple_iterator",_,hit.typeIs,slot_tupleiter_next.lookup,h⟩
theorem Ey(hh:A.handled=none)(I ax:Addr)(hne:ax≠I)(items:Array Value) :
  Walks prog w A I [I,ax] [I] items.size (fun i v=>items[i]?=some v) (fun i h=>IsTupIter h I ax i∧IsTup h ax items) where
 sub:=fun b hb=>by simp at hb;simp[hb]
 frame:=fun i h h' st hk=>by
  obtain⟨⟨o,e1,e2⟩,⟨o',f1,f2⟩⟩:=st
  exact⟨⟨o,hk I (by simp) o e1,e2⟩,⟨o',hk ax (by simp) o' f1,f2⟩⟩
 item:=fun i s Q E hi st hQ=>by
  refine next_tuple_item st.1 st.2 (x:=items[i]) (by simp[hi]) fun h' hit' hs'=>?_
  exact hQ _ h' s.toks (by simp[hi]) ⟨hit',st.2.extBut hs'.extBut hne⟩ fun b o hb e=>hs'.extBut b o (fun h=>hb (by simp[h])) e
 done:=fun s Q E st hQ=>next_tuple_end hh st.1 st.2 (by simp) fun h' he'=>hQ h' s.toks fun b o hb e=>he' b o (fun h=>hb (by simp[h])) e
 self:=fun _ _ _ _ st hQ=>uK st.1 hQ
def ig:V->Bool
 |.bl b=>b
 |.int i=>i != 0
 |_=>false
def scS:V->Bool
 |.bl _=>true
 |.int _=>true
 |_=>false
theorem Es(h:scS v=true)(r:RelV v u)(q:Q (ig v) s):wpAny (model prog w) A (truthy u) Q E s:=by
 cases v with
 |bl b=>cases r;exact wpAny_truthy_bool q
 |int i=>obtain⟨t,rfl⟩:=r;exact PyProof.Rows.truthy_int q
 |_=>cases h
theorem range_all{xs:List V}{tr:Nat->Bool}(h:∀(i:Nat) (x:V),xs[i]?=some x->tr i=ig x):(List.range xs.length).all tr=xs.all ig:=by
 rw[Bool.eq_iff_iff,List.all_eq_true,List.all_eq_true]
 constructor
 ·intro q x hx
  obtain⟨i,hi,e⟩:=List.mem_iff_getElem.mp hx
  have:=q i (List.mem_range.mpr hi)
  rw[h i x (by rw[List.getElem?_eq_getElem hi,e])] at this
  exact this
 ·intro q i hi
  have hi':=List.mem_range.mp hi
  rw[h i xs[i] (List.getElem?_eq_getElem hi')]
  exact q _ (List.getElem_mem hi')
theorem range_any{xs:List V}{tr:Nat->Bool}(h:∀(i:Nat) (x:V),xs[i]?=some x->tr i=ig x):(List.range xs.length).any tr=xs.any ig:=by
 rw[Bool.eq_iff_iff,List.any_eq_true,List.any_eq_true]
 constructor
 ·rintro⟨i,hi,e⟩
  have hi':=List.mem_range.mp hi
  rw[h i xs[i] (List.getElem?_eq_getElem hi')] at e
  exact⟨_,List.getElem_mem hi',e⟩
 ·rintro⟨x,hx,e⟩
  obtain⟨i,hi,ex⟩:=List.mem_iff_getElem.mp hx
  refine⟨i,List.mem_range.mpr hi,?_⟩
  rw[h i x (by rw[List.getElem?_eq_getElem hi,ex])]
  exact e
theorem Hq{xs:List V}{its:List Value}(rv:Vals xs its)(hs:∀x∈xs,scS x=true):TruthOf prog w A (fun i v=>its.toArray[i]?=some v) (fun i=>ig (xs[i]?.getD .non)):=by
 intro i v s Q E hP hQ
 have e:its[i]?=some v:=by simpa using hP
 have hl:=rv.length
 have hi:i<xs.length:=by rw[hl];exact (List.getElem?_eq_some_iff.mp e).1
 obtain⟨u,e2,r⟩:=rv.get (List.getElem?_eq_getElem hi)
 rw[e] at e2
 cases e2
 refine Es (hs _ (List.getElem_mem hi)) r ?_
 have hQ':Q (ig (xs[i]?.getD V.non)) s:=hQ
 rw[List.getElem?_eq_getElem hi] at hQ'
 exact hQ'
theorem Ff(hh:X.A.handled=none):CallR X (.builtin "all") (fun vs H Q=>∃l xs,vs=[.ref l]∧H l=some (.lst xs)∧(∀x∈xs,scS x=true)∧Q (.bl (xs.all ig)) H):=by
 intro pins s σ H vs us Q I r h
 obtain⟨l,xs,rfl,hH,hs,q⟩:=h
 obtain⟨u,rfl,ru⟩:=vals1 r
 cases ru
 obtain⟨its,rv,p,hz⟩:=I.list (SqL.of (K:=X.K) hH)
 have hl:l<s.heap.objs.size:=by obtain⟨o,n,e,_⟩:=p;exact Heap.lt_size e
 refine call_all_walk (wpAny_pyIter_list p.isList ?_)
 refine⟨s.heap.objs.size,[s.heap.objs.size,l],[s.heap.objs.size],its.toArray.size,fun i v=>its.toArray[i]?=some v,fun i h=>h.IsListIter s.heap.objs.size l i∧h.IsList l its.toArray,fun i=>ig (xs[i]?.getD .non),rfl,Walks.list (A:=X.A.in1) hh s.heap.objs.size l (Nat.ne_of_lt hl) its.toArray,⟨⟨_,Heap.get?_push_size _ rfl,rfl,rfl⟩,p.isList.at fun o e=>Heap.get?_push_of_some _ e⟩,Hq rv hs,fun h' tk hk=>?_⟩
 refine⟨.bl (xs.all ig),H,I.kept fun b o e=>hk b o (fun z=>?_) (Heap.get?_push_of_some _ e),?_,q⟩
 ·have:b=s.heap.objs.size:=by simpa using z
  exact absurd (Heap.lt_size e) (by rw[this];exact Nat.lt_irrefl _)
 ·rw[show its.toArray.size=xs.length by rw[List.size_toArray];exact rv.length.symm]
  show Value.bool _=Value.bool _
  rw[range_all fun i x e=>by rw[e];rfl]
theorem Fg(hh:X.A.handled=none):CallR X (.builtin "any") (fun vs H Q=>∃l xs,vs=[.ref l]∧H l=some (.tup xs)∧(∀x∈xs,scS x=true)∧Q (.bl (xs.any ig)) H):=by
 intro pins s σ H vs us Q I r h
 obtain⟨l,xs,rfl,hH,hs,q⟩:=h
 obtain⟨u,rfl,ru⟩:=vals1 r
 cases ru
 obtain⟨its,rv,p,hz⟩:=I.tuple (SqT.of (K:=X.K) hH)
 have hl:l<s.heap.objs.size:=by obtain⟨o,e,_⟩:=p;exact Heap.lt_size e
 refine call_any_walk (iter_tuple p ?_)
 refine⟨s.heap.objs.size,[s.heap.objs.size,l],[s.heap.objs.size],its.toArray.size,fun i v=>its.toArray[i]?=some v,fun i h=>IsTupIter h s.heap.objs.size l i∧IsTup h l its.toArray,fun i=>ig (xs[i]?.getD .non),rfl,Ey (A:=X.A.in1) hh s.heap.objs.size l (Nat.ne_of_lt hl) its.toArray,⟨⟨_,Heap.get?_push_size _ rfl,rfl,rfl⟩,?_⟩,Hq rv hs,fun h' tk hk=>?_⟩
 ·obtain⟨o',f1,f2⟩:=p
  exact⟨o',Heap.get?_push_of_some _ f1,f2⟩
 refine⟨.bl (xs.any ig),H,I.kept fun b o e=>hk b o (fun z=>?_) (Heap.get?_push_of_some _ e),?_,q⟩
 ·have:b=s.heap.objs.size:=by simpa using z
  exact absurd (Heap.lt_size e) (by rw[this];exact Nat.lt_irrefl _)
 ·rw[show its.toArray.size=xs.length by rw[List.size_toArray];exact rv.length.symm]
  show Value.bool _=Value.bool _
  rw[range_any fun i x e=>by rw[e];rfl]
def NK(tv:TE):TE:=fun σ H Q=>tv σ H fun x H1=>∃i:Int,x=.int i∧i.natAbs.log2<1920∧Q (.str (toString i)) H1
theorem Ka(he:PE X e tv):PE X (.FormattedValue e (-1) none pos) (NK tv):=by
 intro pins s σ H Q I h
 refine FormattedValue_plain (thn (he pins s σ H _ I h) fun v s1 ⟨x,H1,I1,r1,q1⟩=>?_)
 obtain⟨i,rfl,hl,q⟩:=q1
 obtain⟨t,rfl⟩:=r1
 exact wpAny_formatField_int hl ⟨.str _,H1,I1.tok _,⟨_,rfl⟩,q⟩
def K5(ta tb tc:TE):TE:=fun σ H Q=>ta σ H fun x H1=>∃a:Str,x=.str a∧a.length≤sizeLine∧tb σ H1 fun y H2=>∃b:Str,y=.str b∧a.length+b.length≤sizeLine∧tc σ H2 fun z H3=>∃c:Str,z=.str c∧a.length+b.length+c.length≤sizeLine∧Q (.str (Str.empty++a++b++c)) H3
theorem Gv(ha:PE X a ta)(hb:PE X b tb)(hc:PE X c tc):PE X (.JoinedStr [a,b,c] pos) (K5 ta tb tc):=by
 intro pins s σ H Q I h
 have el:∀y:Str,(Str.empty++y).length=y.length:=fun y=>by rw[strLen_append];show 0+y.length=y.length;lia
 refine JoinedStr_many (joinParts_cons (thn (ha pins s σ H _ I h) fun v s1 ⟨x,H1,I1,r1,q1⟩=>?_))
 obtain⟨sa,rfl,la,q1⟩:=q1
 obtain⟨t,rfl⟩:=r1
 refine⟨by rw[el];exact la,joinParts_cons (thn (hb pins s1 σ H1 _ I1 q1) fun v s2 ⟨y,H2,I2,r2,q2⟩=>?_)⟩
 obtain⟨sb,rfl,lb,q2⟩:=q2
 obtain⟨t2,rfl⟩:=r2
 refine⟨by rw[strLen_append,el];exact lb,joinParts_cons (thn (hc pins s2 σ H2 _ I2 q2) fun v s3 ⟨z,H3,I3,r3,q3⟩=>?_)⟩
 obtain⟨sc,rfl,lc,q3⟩:=q3
 obtain⟨t3,rfl⟩:=r3
 have l3:(Str.empty++sa++sb++sc).length≤sizeLine:=by rw[strLen_append,strLen_append,el];exact lc
 exact⟨l3,joinParts_nil ⟨.str _,H3,I3.tok _,⟨_,rfl⟩,q3⟩ l3⟩
theorem vq:∀ {bs:List Bool}{its:List Value},Vals (bs.map V.bl) its->its=bs.map Value.bool
 |[],_,r=>by rw[List.map_nil] at r;cases r;rfl
 |b::bs,_,r=>by
   rw[List.map_cons] at r
   cases r with
   |cons r1 r2=>cases r1;rw[vq r2];rfl
def eqB(b:Bool):Value->Bool
 |.bool c=>c==b
 |_=>false
theorem vN(b:Bool):∀bs:List Bool,(bs.map Value.bool).countP (eqB b)=bs.countP (·== b)
 |[]=>rfl
 |c::bs=>by rw[List.map_cons,List.countP_cons,List.countP_cons,vN b bs];rfl
theorem Gm:MtM X "list.count" (fun x vs H Q=>∃(l:Addr) (bs:List Bool) (b:Bool),x=.ref l∧vs=[.bl b]∧H l=some (.lst (bs.map V.bl))∧Q (.int (bs.countP (·== b):Nat)) H):=by
 intro pins s σ H x vs v us Q I rx rv h
 obtain⟨l,bs,b,rfl,rfl,hH,q⟩:=h
 cases rx
 obtain⟨u,rfl,ru⟩:=rv.one
 cases ru
 obtain⟨z,its,n,r,hl,e⟩:=I.lstM hH
 have ei:=vq r
 subst ei
 refine call_meets F.slot_list_count ⟨_,e,rfl⟩ F.entry_list_count (F.args_list_count_2 _ _) (PySem.SeqAt.list_countAt l (bs.map Value.bool).toArray n none #[] (.bool b) (eqB b)) ⟨e,fun y hy=>?_,?_⟩
 ·have hy':y∈bs.map Value.bool:=by simpa using hy
  obtain⟨c,_,rfl⟩:=List.mem_map.mp hy'
  exact PySem.SeqAt.EqAt.bool_bool c b
 ·refine⟨.int _,H,I.tok _,⟨s.toks,?_⟩,q⟩
  show Value.int (((bs.map Value.bool).toArray.toList.countP (eqB b):Nat):Int) _=_
  rw[show (bs.map Value.bool).toArray.toList=bs.map Value.bool from rfl,vN]
theorem Gn:MtM X "list.index" (fun x vs H Q=>∃(l:Addr) (bs:List Bool) (b:Bool) (j:Nat),x=.ref l∧vs=[.bl b]∧H l=some (.lst (bs.map V.bl))∧bs[j]?=some b∧(∀m c,m<j->bs[m]?=some c->(c==b)=false)∧j<1000∧Q (.int (j:Nat)) H):=by
 intro pins s σ H x vs v us Q I rx rv h
 obtain⟨l,bs,b,j,rfl,rfl,hH,hj,hno,h1,q⟩:=h
 cases rx
 obtain⟨u,rfl,ru⟩:=rv.one
 cases ru
 obtain⟨z,its,n,r,hl,e⟩:=I.lstM hH
 have ei:=vq r
 subst ei
 obtain⟨lt,ej⟩:=List.getElem?_eq_some_iff.mp hj
 have lt':j<(bs.map Value.bool).toArray.size:=by simpa using lt
 refine call_meets F.slot_list_index ⟨_,e,rfl⟩ F.entry_list_index (F.args_list_index_2 _ _) (PySem.SeqAt.list_indexAt l (bs.map Value.bool).toArray n none #[] (.bool b) (eqB b) j lt' (by lia) ?_ ?_) ⟨e,fun y hy=>?_,?_⟩
 ·simp[eqB,ej]
 ·intro m hm lm
  have hm':m<bs.length:=by simpa using hm
  have:=hno m bs[m] lm (List.getElem?_eq_getElem hm')
  simpa[eqB] using this
 ·have hy':y∈bs.map Value.bool:=by simpa using hy
  obtain⟨c,_,rfl⟩:=List.mem_map.mp hy'
  exact PySem.SeqAt.EqAt.bool_bool c b
 ·exact⟨.int _,H,I.tok _,⟨_,rfl⟩,q⟩
theorem sH:fillsNumberSlot (.type "tuple") "mul"=pure false:=
 PySem.fillsNumberSlot_seq (id := "tuple.__mul__") (r:=some (.builtin "tuple.__rmul__")) F.slot_tuple_mul.lookup (by decide +kernel) F.slot_tuple_rmul.lookup (by decide +kernel)
theorem yI:seqRepeat? (.type "tuple")=pure (some (.builtin "tuple.__mul__")):=by
 unfold seqRepeat?
 rw[PySem.seqSlot_of (T := "tuple") (name := "__mul__") (id := "tuple.__mul__") F.slot_tuple_mul.lookup (by decide +kernel),PySem.seqSlot_of (T := "tuple") (name := "__rmul__") (id := "tuple.__rmul__") F.slot_tuple_rmul.lookup (by decide +kernel)]
 rfl
theorem Bq(a:Int)(t:Tok)(l:Addr)(items:Array Value)(n:Nat)(dd:Option Addr)(sl:Array (Option Value)) :
  Meets (Builtin.«int.__rmul__» ⟨[.int a t,.ref l],[]⟩) (fun _ R s=>s.heap.get? l=some { cls:=.type "tuple",dict:=dd,data:=.seq items n,slots:=sl }∧R (.ok (.ret Value.notImplemented)) s):=
 .of_wp fun prog w A R s h=>by obtain⟨hp,g,d,tk,os⟩:=s;obtain⟨hl,h⟩:=h;wp_walk;exact⟨_,rfl,h⟩
open PySem.AutoSeq1 (wpAny_loadPart') in
theorem Lr(l:Addr)(items:Array Value)(n:Nat)(dd:Option Addr)(sl:Array (Option Value))(t:Tok) :
  Meets (Builtin.«tuple.__mul__» ⟨[.ref l,.int 1 t],[]⟩) (fun _ R s=>s.heap.get? l=some { cls:=.type "tuple",dict:=dd,data:=.seq items n,slots:=sl }∧R (.ok (.ret (.ref l))) s):=
 .of_wp fun prog w A R s h=>by
  obtain⟨hp,g,d,tk,os⟩:=s;obtain⟨hl,h⟩:=h
  have f1:=AutoSeq1.idx_int
  have f2:=AutoSeq1.sub_tuple_tuple
  unfold Builtin.«tuple.__mul__»
  wp_walk using wpAny_loadPart' hl
  exact⟨_,rfl,h⟩
open PySem.AutoSeq1 (wpAny_loadPart') in
theorem Ls (l:Addr) (items:Array Value) (n:Nat) (dd:Option Addr) (sl:Array (Option Value)) (k:Int) (t:Tok) (h0:¬(decide (k < -2 ^ 63) || decide (k ≥ 2 ^ 63))=true) (h1:¬(items.isEmpty || k == 1)=true) (h2:¬(decide (k≤0) || items.isEmpty)=true)
  (h3:¬((items.size:Int)*k > (2^63-1) / 8)) (h4:¬Builtin.Tuple.tupleTooMany ((items.size:Int)*k)=true) (h5:sizeOk (.seq (List.foldl (fun x1 x2=>x1++x2) #[] (List.replicate k.toNat items)))) :
  Meets (Builtin.«tuple.__mul__» ⟨[.ref l,.int k t],[]⟩) (fun _ R s=>s.heap.get? l=some { cls:=.type "tuple",dict:=dd,data:=.seq items n,slots:=sl } ∧
   R (.ok (.ret (.ref s.heap.objs.size))) { s with heap:=s.heap.push { cls:=.type "tuple",data:=.seq (List.foldl (fun x1 x2=>x1++x2) #[] (List.replicate k.toNat items)) } }):=
 .of_wp fun prog w A R s h=>by
  obtain⟨hp,g,d,tk,os⟩:=s;obtain⟨hl,h⟩:=h
  have f1:=AutoSeq1.idx_int
  have f2:=AutoSeq1.sub_tuple_tuple
  unfold Builtin.«tuple.__mul__»
  wp_walk using wpAny_loadPart' hl
  rw[if_neg h0]
  wp_walk using wpAny_loadPart' hl
  rw[if_neg h3]
  wp_walk using wpAny_loadPart' hl
  rw[if_neg (show ¬ _ > sizeLine from Nat.not_lt.mpr h5)]
  wp_walk using wpAny_loadPart' hl
  all_goals first | exact⟨_,rfl,h⟩ | assumption
def Ma:R2:=fun x y H Q=>∃(l:Addr) (c:V) (k:Int),x=.ref l∧y=.int k∧H l=some (.tup [c])∧1≤k∧k≤1000∧∀p H',Same H H'->H' p=some (.tup (List.replicate k.toNat c))->Q (.ref p) H'
theorem Ii:OpR X (binaryOp .Mult) Ma:=by
 intro pins s σ H x y v u Q I rx ry h
 obtain⟨l,c,k,rfl,rfl,hH,h1,h2,q⟩:=h
 cases rx
 obtain⟨t,rfl⟩:=ry
 obtain⟨its,r,⟨⟨cls,dd,data,sl⟩,e,hc,n,hd⟩,hz⟩:=I.tuple (SqT.of (K:=X.K) hH)
 simp only at hc hd
 subst hc hd
 obtain⟨u,rfl,ru⟩:=vals1 r
 have ty:s.TypeIs (.ref l) "tuple":=⟨_,e,rfl⟩
 refine wpAny_binaryOp_repeat_ref (T := "tuple") (U := "int") (by decide) ty (fun s'=>typeIs_int s' k t) sH F.fills_int_mul F.slot_int_rmul yI F.slot_int_index.lookup
  (call_meets F.slot_int_rmul (typeIs_int s k t) F.entry_int_rmul (F.args_int_rmul_2 _ _) (Bq k t l _ n dd sl) ⟨e,rfl,ty,?_⟩)
 by_cases hk:k=1
 ·subst hk
  refine call_meets F.slot_tuple_mul ty F.entry_tuple_mul (F.args_tuple_mul_2 _ _) (Lr l _ n dd sl t) ⟨e,?_⟩
  exact⟨.ref l,H,I,rfl,q l H (Same.refl _) hH⟩
 ·have fl:List.foldl (fun x1 x2=>x1++x2) #[] (List.replicate k.toNat #[u])=(List.replicate k.toNat u).toArray:=by
   have:=foldl_rep [u] k.toNat []
   rw[List.nil_append] at this
   rw[this]
   have e2:∀m:Nat,(List.replicate m [u]).flatten=List.replicate m u:=fun m=>by
    induction m with
    |zero=>rfl
    |succ m ih=>rw[List.replicate_succ,List.flatten_cons,ih,List.replicate_succ];rfl
   rw[e2]
  refine call_meets F.slot_tuple_mul ty F.entry_tuple_mul (F.args_tuple_mul_2 _ _) (Ls l #[u] n dd sl k t ?_ ?_ ?_ ?_ ?_ ?_) ⟨e,?_⟩
  ·simp;lia
  ·simp[hk]
  ·simp;lia
  ·show ¬ (((1:Nat):Int)*k > (2^63-1) / 8);lia
  ·unfold Builtin.Tuple.tupleTooMany;rw[sizeLine_eq];show ¬ decide (((1:Nat):Int)*k > _)=true;simp;lia
  ·show (List.foldl (fun x1 x2=>x1++x2) #[] (List.replicate k.toNat #[u])).size≤sizeLine
   rw[fl,List.size_toArray,List.length_replicate,sizeLine_eq];lia
  rw[fl]
  have rr:∀m:Nat,Vals (List.replicate m c) (List.replicate m u):=fun m=>by
   induction m with
   |zero=>exact .nil
   |succ m ih=>rw[List.replicate_succ,List.replicate_succ];exact .cons ru ih
  refine⟨.ref s.heap.objs.size,_,I.laid (t':=s.toks) (o:=.tup (List.replicate k.toNat c)) (fun b ob q=>Heap.get?_push_of_some _ q) (Nat.le_refl _) ?_,rfl,q _ _ (same_new (I.hok.fresh (Nat.le_refl _)) _) upd_same⟩
  exact⟨by rw[List.length_replicate,sizeLine_eq];lia,_,rr _,IsTup.new _ _⟩
theorem Ly(h:X.mg x=some (.int i t))(hg:Gl X x:=by rfl)(hd:(x==("__debug__":Str))=false:=by decide):PE X (.Name x pos) (tC (.int i)):=pe_glob hg h ⟨t,rfl⟩ hd
theorem su:∀{l:List α},(∀x∈l,f x=g x)->l.filterMap f=l.filterMap g
 |[],_=>rfl
 |a::l,h=>by rw[List.filterMap_cons,List.filterMap_cons,h a (List.mem_cons_self ..),su fun x hx=>h x (List.mem_cons_of_mem _ hx)]
theorem Gx(xs:List Value):((List.range xs.length).filterMap fun (m:Nat)=>xs.toArray[(((xs.length:Int)-1)+(m:Int)*(-1)).toNat]?)=xs.reverse:=by
 have e:(List.range xs.length).filterMap (fun (m:Nat)=>xs.toArray[(((xs.length:Int)-1)+(m:Int)*(-1)).toNat]?)=(List.range xs.length).filterMap (fun (m:Nat)=>xs.reverse[m]?):=by
  refine su fun m hm=>?_
  have hm':=List.mem_range.mp hm
  rw[List.getElem?_reverse hm']
  have:(((xs.length:Int)-1)+(m:Int)*(-1)).toNat=xs.length-1-m:=by lia
  rw[this];simp
 rw[e]
 have q:=pick_run xs.reverse.toArray 0 xs.length
 rw[List.filterMap_map] at q
 have e2:(List.range xs.length).filterMap (fun (m:Nat)=>xs.reverse[m]?)=(List.range xs.length).filterMap ((fun x=>xs.reverse.toArray[x]?) ∘ fun x=>0+x):=su fun m _=>by simp
 rw[e2,q]
 show List.take xs.length (List.drop 0 xs.reverse)=xs.reverse
 rw[List.drop_zero]
 exact List.take_of_length_le (by simp)
theorem sX{E:Value->Shared->Prop}{n:Nat}{Q:Int×Int×Nat->Shared->Prop}(hs:s.heap.IsSliceOf sl .none .none (.int (-1) tk))(h:Q (((n:Int)-1),-1,n) s) :
  wpAny (model prog w) A (Builtin.Slice.sliceApplied (.ref sl) (pure (n:Int))) Q E s:=by
 obtain⟨os,hos,hcs,hds⟩:=id hs
 unfold Builtin.Slice.sliceApplied Builtin.Slice.sliceFields
 refine wpAny_bind (wpAny_bind (wpAny_field hos hds (x:=.none) rfl (wpAny_bind (wpAny_field hos hds (x:=.none) rfl (wpAny_bind (wpAny_field hos hds (x:=.int (-1) tk) rfl (wpAny_pure ?_)))))))
 refine wpAny_bind (slicePart_int ?_)
 show wpAny _ _ (if ((-1:Int)==0)=true then _ else _) _ _ s
 rw[if_neg (by decide)]
 refine wpAny_bind (slicePart_none (wpAny_bind (slicePart_none (wpAny_bind (wpAny_pure ?_)))))
 have e:Builtin.Slice.slicePlaces ((n:Int)-1) (-1) (-1)=n:=by
  unfold Builtin.Slice.slicePlaces
  rw[if_neg (by decide),show -(-1:Int)=1 from rfl,Int.ediv_one]
  split<;>lia
 show wpAny _ _ (pure (((n:Int)-1),(-1:Int),Builtin.Slice.slicePlaces ((n:Int)-1) (-1) (-1))) _ _ s
 rw[e]
 exact wpAny_pure h
theorem qR{E:Value->Shared->Prop}{its:List Value}{Q:Value->Shared->Prop}(ht:IsTup s.heap t its.toArray)(hs:s.heap.IsSliceOf sl .none .none (.int (-1) tk))
  (h:Q (.ref s.heap.objs.size) { s with heap:=s.heap.push { cls:=.type "tuple",data:=.seq its.reverse.toArray } }) (hsz:its.length≤sizeLine):wpAny (model prog w) A (getItem (.ref t) (.ref sl)) Q E s:=by
 obtain⟨os,hos,hcs,hds⟩:=id hs
 have hTs:s.TypeIs (.ref sl) "slice":=⟨os,hos,hcs⟩
 unfold getItem
 try with_reducible refine wpAny_holding ?_
 first | refine wpAny_bind (wpAny_pure ?_) | skip
 refine wpAny_bind (wpAny_sequenceKey ht.typeIs (by decide) ?_)
 refine wpAny_bind (wpAny_callSpecial?_slot (name:=Str.ofString "__getitem__") ht.typeIs PyProof.Rows.slot_tuple_getitem
  (wpAny_call_entry PyProof.Rows.slot_tuple_getitem ht.typeIs entry_tuple_getitem ?_ (args_tuple_getitem _ _)))
 show wpAny _ _ (Builtin.Tuple.tupleItemsOf (.ref t)>>=_) _ _ s
 refine wpAny_bind (tupleItemsOf_ ht ?_)
 refine wpAny_bind (wpAny_typeOf hTs ?_)
 rw[if_pos (by decide)]
 rw[show its.toArray.size=its.length from by simp]
 refine wpAny_bind (sX hs ?_)
 have hno:¬ ((((its.length:Int)-1)==0&&(-1:Int)==1&&its.length==its.length)=true):=by simp
 show wpAny _ _ (if ((((its.length:Int)-1)==0&&(-1:Int)==1&&its.length==its.length)=true) then _ else _) _ _ s
 rw[if_neg hno,Gx]
 have htake:sizeOk (.seq its.reverse.toArray):=by
  show its.reverse.toArray.size≤sizeLine
  rw[List.size_toArray,List.length_reverse];exact hsz
 first
  |exact wpAny_bind (m:=Builtin.Tuple.tupleExact _) (wpAny_newObj_type (wpAny_pure ⟨_,rfl,wpAny_pure h⟩) htake)
  |exact wpAny_bind (m:=Builtin.Tuple.tupleExact _) (wpAny_newObj_type (wpAny_bind (wpAny_pure (wpAny_pure ⟨_,rfl,wpAny_pure h⟩))) htake)
  |exact wpAny_bind (wpAny_bind (m:=Builtin.Tuple.tupleExact _) (wpAny_newObj_type (wpAny_pure (wpAny_pure ⟨_,rfl,wpAny_pure h⟩)) htake))
  |exact wpAny_bind (wpAny_bind (m:=Builtin.Tuple.tupleExact _) (wpAny_newObj_type (wpAny_pure ⟨_,rfl,wpAny_pure h⟩) htake))
def NP(te:TE):TE:=fun σ H Q=>te σ H fun x H1=>∃a xs,x=.ref a∧H1 a=some (.tup xs)∧∀p,H1 p=none->Q (.ref p) (upd H1 p (.tup xs.reverse))
theorem Kc(he:PE X e te):PE X (.Subscript e (.Slice none none (some (.UnaryOp .USub (.Constant (.int 1) j p3) p4)) p2) pos) (NP te):=by
 intro pins s σ H Q I h
 refine Subscript_ (thn (he pins s σ H _ I h) fun v s1 ⟨x,H1,I1,r1,q1⟩=>?_)
 obtain⟨a,xs,rfl,hx,q⟩:=q1
 cases r1
 refine wpAny_Slice ?_
 rw[evalPart_none]
 refine wpAny_pure (wpAny_pure ?_)
 rw[evalPart_some]
 have hu:PE X (.UnaryOp .USub (.Constant (.int 1) j p3) p4) (tUn (rU fun i=>.int (-i)) (tC (.int 1))):=pe_un un_neg pe_int
 refine thn (hu pins s1 σ H1 (fun v H'=>v=.int (-1)∧H'=H1) I1 ⟨1,rfl,rfl,rfl⟩) fun u s2 ⟨y,H2,I2,r2,ey,eh⟩=>?_
 subst ey eh
 obtain⟨tk,rfl⟩:=r2
 have I3:Inv X pins σ H2 { s2 with heap:=s2.heap.push { cls:=.type "slice",data:=.fields #[.none,.none,.int (-1) tk] } }:=I2.kept (t':=s2.toks) fun b ob q=>Heap.get?_push_of_some _ q
 obtain⟨its,r,ht,hz⟩:=I3.tuple (SqT.of (K:=X.K) hx)
 refine tail_any (ops:=[.ref a,.ref s2.heap.objs.size]) ht.typeIs PyProof.Rows.slot_tuple_getitem.lookup (qR ht (Heap.IsSliceOf.new ..) ?_ (by rw[←r.length];exact hz)) (by with_unfolding_all rfl)
 refine⟨.ref _,_,I3.laid (t':=s2.toks) (o:=.tup xs.reverse) (fun b ob q=>Heap.get?_push_of_some _ q) (Nat.le_refl _) ?_,rfl,q _ (I3.hok.fresh (Nat.le_refl _))⟩
 exact⟨by rw[List.length_reverse];exact hz,_,r.reverse,IsTup.new _ _⟩
end
end L2
namespace L2
open PySem PySem.Spec PyProof.Rows
open PySem PySem.Spec PyProof.Rows
end L2
namespace L2
open PySem PySem.Spec PyProof.Rows
theorem cH:∀ (names:List (Str×NameKind)) (n:Nat) (acc:List (Str×Addr)),cellsFrom n names acc=cellsFrom n names []++acc
 |[],_,_=>rfl
 |(name,kind)::r,n,acc=>by
   unfold cellsFrom
   split
   ·rw[cH r (n+1) ((name,n)::acc),cH r (n+1) [(name,n)],List.append_assoc];rfl
   ·exact cH r n acc
theorem vU
  (hQ:Q (newEnv scope s.heap.objs.size globals (cellsFrom (s.heap.objs.size+1) scope.names cl) qual none .none (some env) builtinsNs) { s with heap:=pushCells (s.heap.push { cls:=.type "dict",data:=.dict #[] }) scope.names }) :
  wpAny M A (newFunctionEnv scope globals cl [] qual none .none (some env)) Q E s:=by
 simp only[newFunctionEnv,Option.isSome_some,if_true]
 refine wpAny_bind (wpAny_alloc ?_)
 refine wpAny_bind (wpAny_layCells _ (fun name kind cells=>by cases hkc:kind==NameKind.cell<;>simp[hkc]) _ _ _ _ ?_)
 rw[show ({ s with heap:=s.heap.push { cls:=.type "dict",data:=.dict #[] } }:Shared).heap.objs.size=s.heap.objs.size+1 from Heap.size_push ..]
 refine wpAny_bind ?_
 rw[List.forIn_nil]
 exact wpAny_pure (wpAny_pure hQ)
abbrev Cx.bN(X:Cx)(pins:List (Addr×Obj))(scope:Scope)(cs:List (Str×Addr))(Nc:List Str)(fp:List Addr)(C:Addr)(s₂:Shared)(H₂:Hp):Cx where
 prog:=X.prog
 w:=X.w
 K:=X.K
 mg:=X.mg
 base:=X.base
 A:=X.A
 N:=Nc
 s₀:=s₂
 H₀:=H₂
 env:=compEnvC scope cs C X.env
 outer:=X.stack
 stack:=X.stack
 ex:=fp
 fn:=fun y=>scope.names.lookup y==some .cell
 calm:=X.calm
 pn:=X.pn++pins
 xe:=fun _ _=>False
structure CompG(X:Cx)(scope:Scope)(cl:List (Str×Addr))(own:List Str)(js:List Nat)(fr:List Str):Prop where
 kind:scope.kind=.function
 names:∀y∈scope.names,y.2=.local->scope.names.lookup y.1=some .local
 clos:closureFor scope X.env=pure cl
 sub:∀y c,cl.lookup y=some c->X.env.cells.lookup y=some c
 has:∀(m:Nat) y,((relabel scope X.env).names.lookup y=some .cell∨(relabel scope X.env).names.lookup y=some .free)->∃c,(cellsFrom m scope.names cl).lookup y=some c
 nd:(own++fr).Nodup
 len:js.length=fr.length
 newc:∀(m:Nat) y c,(cellsFrom m scope.names []).lookup y=some c->scope.names.lookup y=some .cell
 oldc:∀y c,cl.lookup y=some c->scope.names.lookup y≠some .cell
 fre:∀(k j:Nat) (y:Str),js[k]?=some j->fr[k]?=some y->X.N[j]?=some y∧(X.env.scope.names.lookup y=some .cell∨X.env.scope.names.lookup y=some .free)∧((relabel scope X.env).names.lookup y=some .cell∨(relabel scope X.env).names.lookup y=some .free)∧∃c,cl.lookup y=some c
theorem n6:∀ {l m:List (Str×α)},(l++m).lookup y=some c->l.lookup y=some c∨(l.lookup y=none∧m.lookup y=some c)
 |[],_,h=>.inr ⟨rfl,h⟩
 |(k,v)::r,m,h=>by
   rw[List.cons_append,List.lookup_cons] at h
   rw[List.lookup_cons]
   split at h
   ·exact .inl h
   ·exact n6 h
theorem lU:∀ {l m:List (Str×α)},l.lookup y=none->(l++m).lookup y=m.lookup y
 |[],_,_=>rfl
 |(k,v)::r,m,h=>by
   rw[List.lookup_cons] at h
   rw[List.cons_append,List.lookup_cons]
   split at h
   ·cases h
   ·exact lU h
section
variable{X:Cx}{pins:List (Addr×Obj)}{σ:St}{H:Hp}{s:Shared}{scope:Scope}{cl:List (Str×Addr)}{own:List Str}{js:List Nat}{fr:List Str}{fp:List Addr}{C m:Addr}
theorem Fq {hh:Heap} (T:CompG X scope cl own js fr) (I:Inv X pins σ H s) (f:∀ b∈fp,FpOk X pins H b) (hlt:∀ b∈fp,b<s.heap.objs.size) (hC:s.heap.objs.size≤C) (hm:m=hh.objs.size) (hms:s.heap.objs.size≤m) :
  (X.bN pins scope (cellsFrom m scope.names cl) (own++fr) fp C s H).Ok:=by
 have ok:CellsOk (pushCells hh scope.names) m (cellsFrom m scope.names []):=by
  have:=cellsFrom_ok scope.names hh m [] ⟨fun _ _ hm=>(nomatch hm),List.Pairwise.nil⟩ (by rw[hm];exact Nat.le_refl _)
  rw[←hm] at this;exact this
 have hold:∀y c,cl.lookup y=some c->c<s.heap.objs.size:=fun y c e=>by
  obtain⟨v,q⟩:=I.cell y c (T.sub _ _ e)
  exact q.lt
 have spl:∀y c,(cellsFrom m scope.names cl).lookup y=some c->(m≤c∧(cellsFrom m scope.names []).lookup y=some c)∨(cl.lookup y=some c∧c<s.heap.objs.size):=fun y c e=>by
  rw[cH] at e
  rcases n6 e with z | ⟨_,z⟩
  ·exact .inl ⟨(ok.empty _ _ (PySem.mem_of_lookup z)).2,z⟩
  ·exact .inr ⟨z,hold _ _ z⟩
 refine⟨I.ok.mod,T.kind,I.ok.glob,I.ok.blt,hC,fun y z c h1 h2=>?_,fun y h=>T.has m y h,fun y c h1 h2=>?_,I.ok.hd,I.ok.frames,.inl rfl,fun b hb=>⟨Nat.ne_of_lt (Nat.lt_of_lt_of_le (hlt b hb) hC),fun y c h=>?_⟩,fun b o e=>I.bs b o e,Nat.le_trans I.ok.bsz I.sz,fun b o e hb=>?_,fun b hb hm'=>?_,I.stack,I.stkFree⟩
 ·rcases spl _ _ h1 with ⟨a1,a2⟩ | ⟨a1,a2⟩
  ·rcases spl _ _ h2 with ⟨b1,b2⟩ | ⟨b1,b2⟩
   ·exact name_of_addr ok.apart (PySem.mem_of_lookup a2) (PySem.mem_of_lookup b2)
   ·exact absurd (Nat.lt_of_lt_of_le b2 hms) (Nat.not_lt.mpr a1)
  ·rcases spl _ _ h2 with ⟨b1,b2⟩ | ⟨b1,b2⟩
   ·exact absurd (Nat.lt_of_lt_of_le a2 hms) (Nat.not_lt.mpr b1)
   ·exact I.ok.inj y z c (T.sub _ _ a1) (T.sub _ _ b1)
 ·rcases spl _ _ h2 with ⟨a1,a2⟩ | ⟨a1,a2⟩
  ·exact Nat.le_trans hms a1
  ·exact absurd (by simpa using h1) (T.oldc _ _ a1)
 ·rcases spl _ _ h with ⟨a1,a2⟩ | ⟨a1,a2⟩
  ·exact fun z=>absurd (Nat.lt_of_lt_of_le (hlt b hb) hms) (Nat.not_lt.mpr (z ▸ a1))
  ·exact (f b hb).2.2.2.2.1 y c (T.sub _ _ a1)
 ·rcases (f b hb).2.2.2.1 with z | z
  ·exact I.ok.noex b o e z
  ·exact absurd (Nat.lt_of_lt_of_le (Heap.lt_size e) I.ok.bsz) (Nat.not_lt.mpr z)
 ·rcases List.mem_cons.mp (I.stkSub b hm') with z | z
  ·exact (f b hb).2.1 z
  ·exact (f b hb).2.2.1 z
theorem vK (T:CompG X scope cl own js fr) (I:Inv X pins σ H s) (f:∀ b∈fp,FpOk X pins H b) (hlt:∀ b∈fp,b<s.heap.objs.size)
  (k:∀b o,s.heap.get? b=some o->h'.get? b=some o) (ha:s.heap.objs.size≤acc) (hC:s.heap.objs.size≤C) (hne:C≠acc) (hm:m=hh.objs.size) (hms:s.heap.objs.size≤m) (hCm:C<m) (ham:acc<m) (hh':h'=pushCells hh scope.names)
  (new:∃n,h'.get? acc=some { cls:=.type "list",data:=.seq #[] n }) (ns:h'.Ns C mm) :
  Inv (X.bN pins scope (cellsFrom m scope.names cl) (own++fr) fp C s H) [] (List.replicate own.length none++pick js σ) (upd H acc (.lst [])) { s with heap:=h',toks:=t' }:=by
 have ok:CellsOk (pushCells hh scope.names) m (cellsFrom m scope.names []):=by
  have:=cellsFrom_ok scope.names hh m [] ⟨fun _ _ hm=>(nomatch hm),List.Pairwise.nil⟩ (by rw[hm];exact Nat.le_refl _)
  rw[←hm] at this;exact this
 have hold:∀y c,cl.lookup y=some c->c<s.heap.objs.size:=fun y c e=>by
  obtain⟨v,q⟩:=I.cell y c (T.sub _ _ e)
  exact q.lt
 have spl:∀y c,(cellsFrom m scope.names cl).lookup y=some c->(m≤c∧h'.IsCell c none)∨(cl.lookup y=some c∧c<s.heap.objs.size):=fun y c e=>by
  rw[cH] at e
  rcases n6 e with z | ⟨_,z⟩
  ·have:=ok.empty _ _ (PySem.mem_of_lookup z)
   exact .inl ⟨this.2,by rw[hh'];exact this.1⟩
  ·exact .inr ⟨z,hold _ _ z⟩
 have hn:H acc=none:=I.hok.fresh ha
 have fC:H C=none:=I.hok.fresh hC
 have ob:ObjOk X.prog X.w (upd H acc (.lst [])) h' acc (.lst []):=by
  obtain⟨n,e⟩:=new
  exact⟨Nat.zero_le _,[],n,.nil,e⟩
 refine⟨Fq T I f hlt hC hm hms,rfl,I.bare,Un.laid k ha hn,⟨mm,ns,fun i y v h1 h2 h3=>?_⟩,fun y c e=>?_,by show upd H acc _ C=none;rw[upd_ne hne];exact fC,fun y c e=>?_,fun p hp=>?_,I.hok.laid k ha ob,?_⟩
 ·have h1:(own++fr)[i]?=some y:=h1
  by_cases hi:i<own.length
  ·rw[List.getElem?_append_left (by rw[List.length_replicate];exact hi),List.getElem?_replicate] at h2
   split at h2<;>cases h2
  ·rw [List.getElem?_append_right (by lia)] at h1
   rw[List.getElem?_append_right (by rw[List.length_replicate];lia),List.length_replicate] at h2
   unfold pick at h2
   rw[List.getElem?_map] at h2
   cases hj:js[i-own.length]? with
   |none=>rw[hj] at h2;cases h2
   | some j=>
     rw[hj] at h2
     have h2s:(σ[j]?).getD none=some v:=Option.some.inj h2
     have h2'':σ[j]?=some (some v):=by
      cases z:σ[j]? with
      |none=>rw[z] at h2s;cases h2s
      |some w=>rw[z] at h2s;exact congrArg some h2s
     obtain⟨g1,g2,g3,c,gc⟩:=T.fre _ j y hj h1
     obtain⟨mX,_,hl⟩:=I.loc
     have vis:Vis X.env.scope y:=g2.elim (fun z=>.inr (.inl z)) fun z=>.inr (.inr z)
     obtain⟨u,r,q⟩:=hl j y v g1 h2'' vis
     refine⟨u,r,.inr ⟨g3,c,?_,?_⟩⟩
     ·show (cellsFrom m scope.names cl).lookup y=some c
      rw[cH]
      cases z:(cellsFrom m scope.names []).lookup y with
      |none=>rw[lU z];exact gc
      |some c'=>exact absurd (T.newc m y c' z) (T.oldc y c gc)
     ·have hc':=T.sub _ _ gc
      rcases q with ⟨q,_⟩ | ⟨_,c2,e2,z⟩
      ·have q:X.env.scope.names.lookup y=some .local:=q
       rcases g2 with g2 | g2<;>(rw[g2] at q;cases q)
      ·rw[hc'] at e2;cases e2
       exact z.keeps k
 ·rcases spl y c e with ⟨_,z⟩ | ⟨z,_⟩
  ·exact⟨_,z⟩
  ·obtain⟨v,q⟩:=I.cell y c (T.sub _ _ z)
   exact⟨v,q.keeps k⟩
 ·rcases spl y c e with ⟨z,_⟩ | ⟨z,lt⟩
  ·show upd H acc _ c=none
   rw[upd_ne (fun (q:c=acc)=>absurd ham (Nat.not_lt.mpr (q ▸ z)))]
   exact I.hok.fresh (Nat.le_trans hms z)
  ·show upd H acc _ c=none
   rw[upd_ne (fun (q:c=acc)=>absurd lt (Nat.not_lt.mpr (q ▸ ha)))]
   exact I.freeC y c (T.sub _ _ z)
 ·have hp':p∈X.pn++pins:=by simpa using hp
  obtain⟨e,n,ne,nf,d⟩:=I.pin p hp'
  refine⟨k _ _ e,?_,Nat.ne_of_lt (Nat.lt_of_lt_of_le (Heap.lt_size e) hC),fun hm=>?_,d⟩
  ·show upd H acc _ p.1=none
   rw[upd_ne (fun z=>absurd (Heap.lt_size e) (by rw[z];exact Nat.not_lt.mpr ha))]
   exact n
  ·rcases List.mem_cons.mp (I.stkSub _ hm) with z | z
   ·exact ne z
   ·exact nf z
 ·show (List.replicate own.length none++pick js σ).length=(own++fr).length
  unfold pick
  rw[List.length_append,List.length_replicate,List.length_map,List.length_append,T.len]
end
section
variable{prog:Program}{w:World}{A:Around}{R:Result->Shared->Prop}{s:Shared}
def vf(ifs:List Expr)(env:Env):Sem Bool:=forIn ifs true fun c r=>if r=true then do let ok ←isTrue c env (eval c env);pure (ForInStep.yield ok) else pure (ForInStep.yield r)
def turnOf (g:Comprehension) (bodyK:Sem Fin->Sem Fin) (c:Code) (it:Value) (env:Env):Sem Fin:=do
 standAt g.iter.pos
 match ←pyNext it with
 |none=>pure (.done .next)
 |some v=>
   letOwnedTupleGo g.target it v
   assign g.target env v
   let ok ←vf g.ifs env
   if ok then bodyK (again c) else again c
def tU(elt:Expr)(acc:Value)(env:Env)(k:Sem Fin):Sem Fin:=do
 (do let _ ←call (.builtin "list.append") [acc,←eval elt env])
 k
theorem Hr(elt target iter:Expr)(ifs:List Expr)(scope:Scope)(pos:Pos)(it acc:Value)(env:Env) :
  compTurn (.ListComp elt [⟨target,iter,ifs,0⟩] scope pos) 0 it acc env=turnOf ⟨target,iter,ifs,0⟩ (tU elt acc env) (.compLoop (.ListComp elt [⟨target,iter,ifs,0⟩] scope pos) 0 it acc env) it env:=rfl
def tH(prog:Program)(w:World)(A:Around)(bodyK:Sem Fin->Sem Fin)(W:(Shared->Prop)->Shared->Prop):Prop:=
 ∀(k:Sem Fin) (Q:Fin->Shared->Prop) (E:Value->Shared->Prop) (s:Shared),W (fun s'=>wpAny (model prog w) A k Q E s') s->wpAny (model prog w) A (bodyK k) Q E s
theorem CP:tH prog w A (tU elt acc env) (fun P s=>wpAny (model prog w) A (eval elt env) (fun x s1=>wpAny (model prog w) A (call (.builtin "list.append") [acc,x]) (fun _ s2=>P s2) (fun _ _=>False) s1) (fun _ _=>False) s):=by
 intro k Q E s h
 unfold tU
 exact wpAny_bind (wpAny_bind (wpAny_mono h (fun x s1 h1=>wpAny_bind (wpAny_mono h1 (fun _ s2 h2=>wpAny_pure h2) fun _ _ z=>z.elim)) fun _ _ z=>z.elim))
theorem Gj (I:Nat->Shared->Prop)
  (hturn:compTurn (.ListComp elt gens scope pos) depth it acc env=turnOf g bodyK (.compLoop (.ListComp elt gens scope pos) depth it acc env) it env) (hW:tH prog w A bodyK W)
  (turn:∀ n s,I n s->wpAny (model prog w) A (pyNext it) (fun r s₁=>match r with
    |none=>R (.ok .next) s₁
    |some v=>wpAny (model prog w) A (letOwnedTupleGo g.target it v) (fun _ s₂=>wpAny (model prog w) A (assign g.target env v) (fun _ s₃=>
      wpAny (model prog w) A (vf g.ifs env) (fun ok s₄=>if ok=true then W (fun s₅=>∃m,m<n∧I m s₅) s₄ else ∃m,m<n∧I m s₄) (fun _ _=>False) s₃) (fun _ _=>False) s₂) (fun _ _=>False) s₁) (fun _ _=>False) s)
  (hmono:∀P P' s,(∀s,P s->P' s)->W P s->W P' s)
  (n:Nat) (h:I n s):codeAny (model prog w) A (.compLoop (.ListComp elt gens scope pos) depth it acc env) R s:=by
 refine codeAny_loop rfl I (fun n s hI=>?_) n h
 show wpAny _ A ((compTurn (.ListComp elt gens scope pos) depth it acc env).onRaise (fun x=>do noteFrame x env;theTreesLotGoes x)) _ _ s
 refine wpAny_noted ?_
 rw[hturn]
 unfold turnOf
 refine wpAny_bind (wpAny_standAt (wpAny_bind (wpAny_mono (turn n s hI) (fun r s₁ h₁=>?_) fun _ _ h'=>h'.elim)))
 cases r with
 |none=>exact wpAny_pure h₁
 | some v=>
   refine wpAny_bind (wpAny_mono h₁ (fun _ s₂ h₂=>wpAny_bind (wpAny_mono h₂ (fun _ s₃ h₃=>wpAny_bind (wpAny_mono h₃ (fun ok s₄ h₄=>?_) fun _ _ h'=>h'.elim)) fun _ _ h'=>h'.elim)) fun _ _ h'=>h'.elim)
   cases ok with
   |false=>
     have h₄:∃m,m<n∧I m s₄:=h₄
     exact wpAny_pure ⟨rfl,h₄⟩
   |true=>
     have h₄:W (fun s₅=>∃m,m<n∧I m s₅) s₄:=h₄
     exact hW _ _ _ _ (hmono _ _ _ (fun s₅ h₅=>wpAny_pure ⟨rfl,h₅⟩) h₄)
theorem wu (hg:gens[depth]?=some g) (ha:g.is_async=0)
  (h0:codeAny (model prog w) A (.compLoop (.ListComp elt gens scope pos) depth it acc env) R s)
  (h:wpAny (model prog w) A (pyIter it) (fun it' s'=>codeAny (model prog w) A (.compLoop (.ListComp elt gens scope pos) depth it' acc env) R s') (fun _ _=>False) s) :
  codeAny (model prog w) A (.compStart (.ListComp elt gens scope pos) depth it acc env) R s:=by
 refine codeAny_of_tree ?_
 show wpAny _ _ ((compStart (.ListComp elt gens scope pos) depth it acc env).onRaise (fun x=>do noteFrame x env;standAt theWindowsPlace)) _ _ s
 refine wpAny_notedAt ?_
 unfold compStart
 have e1:(((clausesOf (.ListComp elt gens scope pos))[depth]?).elim false (·.is_async != 0))=false:=by
  show ((gens[depth]?).elim false (·.is_async != 0))=false
  rw[hg]
  show (g.is_async != 0)=false
  rw[ha];rfl
 rw[e1]
 simp only[Bool.false_eq_true,if_false,pure_bind]
 refine wpAny_bind (wpAny_askSetting (wpAny_ite ?_))
 split
 ·first
   |exact wpAny_bind (wpAny_pure (wpAny_pure (And.intro rfl h0)))
   |exact wpAny_pure (And.intro rfl h0)
 ·refine wpAny_bind (wpAny_rule ?_)
  have e2:(clausesOf (.ListComp elt gens scope pos))[depth]?=some g:=hg
  rw[e2]
  exact wpAny_bind (wpAny_standAt (wpAny_bind (wpAny_mono h (fun it' s' h'=>wpAny_pure (And.intro rfl h')) fun _ _ x=>x.elim)))
end
section
variable{prog:Program}{w:World}{A:Around}{E:Value->Shared->Prop}{s:Shared}
theorem Bd(hi:IsTupIter s.heap ia t k)(ht:IsTup s.heap t its)(hy:its[k]?=some y)
  (hQ:∀h',IsTupIter h' ia t (k+1)->Heap.SameBut ia s.heap h'->Q y { s with heap:=h' }):wpAny (model prog w) A (Builtin.SmallTypes.nextOf (.ref ia)) Q E s:=by
 obtain⟨oi,hoi,hci,hdi⟩:=id hi
 obtain⟨ot,hot,_,nt,hdt⟩:=ht
 unfold Builtin.SmallTypes.nextOf
 refine wpAny_bind (wpAny_callSpecial?_slot (name:=Str.ofString "__next__") hi.typeIs slot_tupleiter_next (wpAny_call_entry slot_tupleiter_next hi.typeIs entry_tupleiter_next ?_ (args_tupleiter_next _)))
 show wpAny _ _ (field (.ref ia) 0>>=_) _ _ s
 refine wpAny_bind (wpAny_field hoi hdi (x:=.ref t) rfl ?_)
 show wpAny _ _ (if (Value.ref t==Value.none)=true then _ else _) _ _ s
 rw[if_neg (fun z:(Value.ref t==Value.none)=true=>Bool.false_ne_true z)]
 show wpAny _ _ (field (.ref ia) 1>>=_) _ _ s
 refine wpAny_bind (wpAny_field hoi hdi (x:=.int k 0) rfl ?_)
 show wpAny _ _ (seqItems? (.ref t)>>=_) _ _ s
 refine wpAny_bind (wpAny_seqItems hot hdt ?_)
 simp only[Int.toNat_natCast,hy]
 refine wpAny_bind (wpAny_setField hoi hdi (by simp) (wpAny_pure ⟨y,rfl,wpAny_pure (hQ _ ⟨_,Heap.get?_update_self _ hoi (Obj.isFreed_of_fields (Obj.data_mapFields hdi _)),(Obj.cls_mapFields ..).trans hci,?_⟩ (Heap.SameBut.update ..))⟩))
 rw[Obj.data_mapFields hdi];simp[rawInt]
theorem za(hh:A.handled=none)(hi:IsTupIter s.heap ia t k)(ht:IsTup s.heap t its)(hy:its[k]?=none)
  (hE:∀h' e,Heap.ExtBut ia s.heap h'->(∃o,h'.get? e=some o∧o.cls=.type "StopIteration")->E (.ref e) { s with heap:=h' }):wpAny (model prog w) A (Builtin.SmallTypes.nextOf (.ref ia)) Q E s:=by
 obtain⟨oi,hoi,hci,hdi⟩:=id hi
 obtain⟨ot,hot,_,nt,hdt⟩:=ht
 unfold Builtin.SmallTypes.nextOf
 refine wpAny_bind (wpAny_callSpecial?_slot (name:=Str.ofString "__next__") hi.typeIs slot_tupleiter_next (wpAny_call_entry slot_tupleiter_next hi.typeIs entry_tupleiter_next ?_ (args_tupleiter_next _)))
 show wpAny _ _ (field (.ref ia) 0>>=_) _ _ s
 refine wpAny_bind (wpAny_field hoi hdi (x:=.ref t) rfl ?_)
 show wpAny _ _ (if (Value.ref t==Value.none)=true then _ else _) _ _ s
 rw[if_neg (fun z:(Value.ref t==Value.none)=true=>Bool.false_ne_true z)]
 show wpAny _ _ (field (.ref ia) 1>>=_) _ _ s
 refine wpAny_bind (wpAny_field hoi hdi (x:=.int k 0) rfl ?_)
 show wpAny _ _ (seqItems? (.ref t)>>=_) _ _ s
 refine wpAny_bind (wpAny_seqItems hot hdt ?_)
 simp only[Int.toNat_natCast,hy]
 refine wpAny_bind (wpAny_rule (wpAny_bind (wpAny_setField hoi hdi (by simp) ?_)))
 show wpAny _ _ (newExc (.type "StopIteration") ([]:List Value)>>=fun _=>_) _ _ _
 refine wpAny_bind ?_
 simp only[newExc,newTuple]
 refine wpAny_bind (wpAny_newObj_type ?_ (by size_fits:_))
 refine wpAny_bind (m:=firstArgMember _ _) (wpAny_of_eq (a:=Value.none) (by first | rfl | simp only[firstArgMember]) ?_)
 refine wpAny_newObj_type ?_ (by size_fits:_)
 simp only[raiseNew]
 refine wpAny_bind (wpAny_handled ?_)
 first | rw[hh] | rw[show A.in1.handled=none from hh]
 refine wpAny_bind (wpAny_pure (wpAny_throw (hE _ _ (((Heap.SameBut.update ..).extBut.push _).push _) ⟨_,Heap.get?_push_size _ rfl,rfl⟩)))
end
structure SubIt(P:Program)(w:World)(i l:Addr)(its:Array Value)(st:Nat->Heap->Prop):Prop where
 obj:∀k h,st k h->(∃o,h.get? i=some o∧∀v,o.data≠.cell v)∧∃o,h.get? l=some o
 keep:∀k h h',st k h->(∀o,h.get? i=some o->h'.get? i=some o)->(∀o,h.get? l=some o->h'.get? l=some o)->st k h'
 item:∀(A:Around) k (s:Shared) x (Q:Value->Shared->Prop) (E:Value->Shared->Prop),st k s.heap->its[k]?=some x->(∀h',st (k+1) h'->Heap.SameBut i s.heap h'->Q x { s with heap:=h' })->wpAny (model P w) A (Builtin.SmallTypes.nextOf (.ref i)) Q E s
 done:∀(A:Around) k (s:Shared) (Q:Value->Shared->Prop) (E:Value->Shared->Prop),A.handled=none->st k s.heap->its[k]?=none->(∀h' e,Heap.ExtBut i s.heap h'->(∃o,h'.get? e=some o∧o.cls=.type "StopIteration")->E (.ref e) { s with heap:=h' })->wpAny (model P w) A (Builtin.SmallTypes.nextOf (.ref i)) Q E s
theorem IK(hne:l≠i)(its:Array Value):SubIt P w i l its (fun k h=>IsTupIter h i l k∧IsTup h l its) where
 obj:=fun k h ⟨⟨o,e,_,d⟩,⟨o',e',_⟩⟩=>⟨⟨o,e,fun v z=>by rw[d] at z;cases z⟩,o',e'⟩
 keep:=fun k h h' ⟨⟨o,e,r⟩,⟨o',e',r'⟩⟩ k1 k2=>⟨⟨o,k1 _ e,r⟩,⟨o',k2 _ e',r'⟩⟩
 item:=fun A k s x Q E st hx hQ=>Bd st.1 st.2 hx fun h' h1 h2=>hQ h' ⟨h1,st.2.extBut h2.extBut hne⟩ h2
 done:=fun A k s Q E hh st hx hE=>za hh st.1 st.2 hx hE
theorem Iz(hne:l≠i)(its:Array Value):SubIt P w i l its (fun k h=>h.IsListIter i l k∧h.IsList l its) where
 obj:=fun k h ⟨⟨o,e,_,d⟩,⟨o',e',_⟩⟩=>⟨⟨o,e,fun v z=>by rw[d] at z;cases z⟩,o',e'⟩
 keep:=fun k h h' ⟨⟨o,e,r⟩,⟨o',e',r'⟩⟩ k1 k2=>⟨⟨o,k1 _ e,r⟩,⟨o',k2 _ e',r'⟩⟩
 item:=fun A k s x Q E st hx hQ=>wpAny_nextOf_list_item st.1 st.2 hx fun h' h1 h2=>hQ h' ⟨h1,st.2.extBut h2.extBut hne⟩ h2
 done:=fun A k s Q E hh st hx hE=>wpAny_nextOf_list_end hh st.1 st.2 hx hE
abbrev yW(h:Heap)(T1:String)(l1:Addr):Heap:=h.push { cls:=.type T1,data:=.fields #[.ref l1,.int 0 0] }
def lJ(b:Bool)(h:Heap)(l:Addr)(xs:Array Value):Prop:=if b then IsTup h l xs else h.IsList l xs
def G5(b:Bool)(i l:Addr)(xs:Array Value)(k:Nat)(h:Heap):Prop:=(if b then IsTupIter h i l k else h.IsListIter i l k)∧lJ b h l xs
theorem Ab(b:Bool)(hne:l≠i)(its:Array Value):SubIt P w i l its (G5 b i l its):=by
 cases b with
 |true=>exact IK hne its
 |false=>exact Iz hne its
theorem lJ.lt(q:lJ b h l xs):l<h.objs.size:=by
 cases b with
 |true=>obtain⟨o,e,_⟩:=(show IsTup h l xs from q);exact Heap.lt_size e
 |false=>obtain⟨o,e,_⟩:=(show h.IsList l xs from q);exact Heap.lt_size e
theorem lJ.keep(q:lJ b h l xs)(k:∀o,h.get? l=some o->h'.get? l=some o):lJ b h' l xs:=by
 cases b with
 |true=>obtain⟨o,e,r⟩:=(show IsTup h l xs from q);exact⟨o,k _ e,r⟩
 |false=>obtain⟨o,e,r⟩:=(show h.IsList l xs from q);exact⟨o,k _ e,r⟩
section
variable{X:Cx}{pins:List (Addr×Obj)}{σ:St}{H:Hp}{s:Shared}{h':Heap}
theorem Inv.turnedL{t':Nat}{ch:List Addr}(I:Inv X pins σ H s)(k:∀b o,b∉ch->s.heap.get? b=some o->h'.get? b=some o)(hf:∀b∈ch,FpOk X pins H b)(hL:∀b∈ch,b≠X.env.locals):Inv X pins σ H { s with heap:=h',toks:=t' }:=by
 have nit:∀b u,H b=some u->b∉ch:=fun b u e z=>by have:=(hf b z).1;rw[e] at this;cases this
 refine I.step (g':=s.gens) (d':=s.drawn) (ch:=ch) (fun b hb=>?_) (fun b o _ _ hc e _=>k b o hc e) (fun b o _ _ hc e _=>⟨o.slots,k b o hc e⟩) (fun _ _ _ _ n=>n)
  (fun b o hc e=>⟨o,k b o hc e⟩) (fun _ _ e=>e) (fun _ _ _ e=>e) (fun b ps e=>⟨#[],by rw[e];simp⟩) (fun m hm=>?_) (fun b u e=>?_) I.bare
 ·obtain⟨_,f1,_,f3,f4,f5⟩:=hf b hb
  exact⟨f3,f1,f4,f5⟩
 ·obtain⟨o,es,ep,ho,r⟩:=hm
  exact⟨o,es,ep,k _ o (fun z=>(hL _ z) rfl) ho,r⟩
 ·refine (I.hok b u e).stay (fun c v hc q=>k c v ?_ q) (fun _ q=>q) fun _ _ q=>q
  rcases hc with z | z
  ·rw[z];exact nit b u e
  ·exact nit c _ z
theorem Inv.turnedLay {t':Nat}{ch:List Addr}{p:Addr}{o:HO} (I:Inv X pins σ H s) (k:∀ b o,b∉ch->s.heap.get? b=some o->h'.get? b=some o) (hf:∀ b∈ch,FpOk X pins H b) (hp:s.heap.objs.size≤p) (new:ObjOk X.prog X.w (upd H p o) h' p o):Inv X pins σ (upd H p o) { s with heap:=h',toks:=t' }:=by
 have nit:∀b u,H b=some u->b∉ch:=fun b u e z=>by have:=(hf b z).1;rw[e] at this;cases this
 have hn:H p=none:=I.hok.fresh hp
 have tr:∀b u,H b=some u->upd H p o b=some u:=fun b u e=>by rw[upd_ne (ne_of_none e hn)];exact e
 refine I.step (g':=s.gens) (d':=s.drawn) (ch:=ch) (fun b hb=>?_) (fun b o _ _ hc e _=>k b o hc e) (fun b o _ _ hc e _=>⟨o.slots,k b o hc e⟩) (fun b u _ e n=>by rw[upd_ne (Nat.ne_of_lt (Nat.lt_of_lt_of_le (Heap.lt_size e) hp))];exact n)
  (fun b o hc e=>⟨o,k b o hc e⟩) (fun b xs e=>tr b _ e) (fun b _ _ e=>tr b _ e) (fun b ps e=>⟨#[],by rw[tr b _ e];simp⟩) (fun m hm=>?_) (fun b u e=>?_) I.bare
 ·obtain⟨_,f1,_,f3,f4,f5⟩:=hf b hb
  exact⟨f3,f1,f4,f5⟩
 ·obtain⟨o,es,ep,ho,r⟩:=hm
  exact⟨o,es,ep,k _ o (fun z=>(hf _ z).2.1 rfl) ho,r⟩
 ·by_cases z:b=p
  ·subst z
   rw[upd_same] at e;cases e
   exact new
  ·rw[upd_ne z] at e
   refine (I.hok b u e).stay (fun c v hc q=>k c v ?_ q) (fun c q=>tr c _ q) fun c xs q=>tr c _ q
   rcases hc with y | y
   ·rw[y];exact nit b u e
   ·exact nit c _ y
end
def wW(b:Bool)(K:PySem.W.Frag)(H:Hp)(l:Addr)(xs:List V):Prop:=if b then SqT K H l xs else SqL K H l xs
theorem Inv.seqS{X:Cx}{pins:List (Addr×Obj)}{σ:St}{H:Hp}{s:Shared}{b:Bool}{l:Addr}{xs:List V}(I:Inv X pins σ H s)(h:wW b X.K H l xs):∃its:List Value,Vals xs its∧lJ b s.heap l its.toArray∧xs.length≤sizeLine:=by
 cases b with
 |true=>obtain⟨its,r,p,z⟩:=I.tuple (show SqT X.K H l xs from h);exact⟨its,r,p,z⟩
 |false=>obtain⟨its,r,p,z⟩:=I.list (show SqL X.K H l xs from h);exact⟨its,r,p.isList,z⟩
theorem Inv.seqS_inj{X:Cx}{pins:List (Addr×Obj)}{σ:St}{H:Hp}{s:Shared}{b:Bool}{l:Addr}{xs ys:List V}(I:Inv X pins σ H s)(h:wW b X.K H l xs)(q:wW b X.K H l ys):xs=ys:=by
 cases b with
 |true=>exact I.tuple_inj (show SqT X.K H l xs from h) q
 |false=>exact I.list_inj (show SqL X.K H l xs from h) q
def jT(b:Bool)(i l:Addr)(k:Nat)(h:Heap):Prop:=if b then IsTupIter h i l k else h.IsListIter i l k
theorem jT.keep{b:Bool}{i l:Addr}{k:Nat}{h h':Heap}(q:jT b i l k h)(kk:∀o,h.get? i=some o->h'.get? i=some o):jT b i l k h':=by
 cases b with
 |true=>obtain⟨o,e,r⟩:=(show IsTupIter h i l k from q);exact⟨o,kk _ e,r⟩
 |false=>obtain⟨o,e,r⟩:=(show h.IsListIter i l k from q);exact⟨o,kk _ e,r⟩
theorem jT.obj{b:Bool}{i l:Addr}{k:Nat}{h:Heap}(q:jT b i l k h):∃o,h.get? i=some o∧∀v,o.data≠.cell v:=by
 cases b with
 |true=>obtain⟨o,e,_,d⟩:=(show IsTupIter h i l k from q);exact⟨o,e,fun v z=>by rw[d] at z;cases z⟩
 |false=>obtain⟨o,e,_,d⟩:=(show h.IsListIter i l k from q);exact⟨o,e,fun v z=>by rw[d] at z;cases z⟩
theorem xR (l:Addr) (xs:Array Value) :
  Meets (Builtin.«enumerate.__new__» ⟨[.type "enumerate",.ref l],[]⟩) (fun _ R s=>IsTup s.heap l xs ∧
   R (.ok (.ret (.ref (yW s.heap "tuple_iterator" l).objs.size))) { s with heap:=(yW s.heap "tuple_iterator" l).push { cls:=.type "enumerate",data:=.fields #[.none,.bool false,.ref s.heap.objs.size,rawInt 0,.none,.none] } }):=
 .of_wp fun prog w A R s h=>by
  obtain⟨hp,gn,dr,tk,os⟩:=s;obtain⟨k1,h⟩:=h
  have hsub:=sub_enumerate
  have K1:IsTup (Shared.heap ⟨hp,gn,dr,tk,os⟩) l xs:=k1
  obtain⟨ot,hot,r⟩:=id K1
  wp_walk using AutoSeq1.wpAny_loadPart' hot
  refine wpAny_stack_any fun sk=>wpAny_pure ?_
  split
  ·rename_i c _ _ _ _ _
   cases (c==Value.type "enumerate")<;>(wp_walk using AutoSeq1.wpAny_loadPart' hot,iter_tuple K1;exact⟨_,rfl,h⟩)
  ·wp_walk using AutoSeq1.wpAny_loadPart' hot,iter_tuple K1
   exact⟨_,rfl,h⟩
section
variable{P:Program}{w:World}{A:Around}{E:Value->Shared->Prop}{s:Shared}{e it l:Addr}{xs:Array Value}{st:Nat->Heap->Prop}
theorem Aj (k1:lJ b s.heap l xs)
  (h:∀h',IsEnum h' (s.heap.objs.size+1) s.heap.objs.size 0 .none->G5 b s.heap.objs.size l xs 0 h'->h'.objs.size=s.heap.objs.size+2->(∀c o,s.heap.get? c=some o->h'.get? c=some o)->Q (.ref (s.heap.objs.size+1)) { s with heap:=h' }) :
  wpAny (model P w) A (call (.type "enumerate") [.ref l]) Q E s:=by
 cases b with
 |false=>exact call_enumerate_list (show s.heap.IsList l xs from k1) fun h' a1 a2 a3 a4=>h h' a1 ⟨a2,k1.keep fun o q=>a4 _ _ q⟩ a3 a4
 |true=>
   refine callType_new F.called_enumerate (by decide) (F.typeCall_enumerate_1 _) (F.newCall_enumerate_1 _) (fun obj=>F.args_object_init_2 obj _) F.entry_enumerate_new (xR l xs) ⟨k1,?_⟩
   have z1:(yW s.heap "tuple_iterator" l).objs.size=s.heap.objs.size+1:=Heap.size_push ..
   have up:∀c o,s.heap.get? c=some o->((yW s.heap "tuple_iterator" l).push { cls:=.type "enumerate",data:=.fields #[.none,.bool false,.ref s.heap.objs.size,rawInt 0,.none,.none] }).get? c=some o:=fun c o q=>Heap.get?_push_of_some _ (Heap.get?_push_of_some _ q)
   have q2:((yW s.heap "tuple_iterator" l).push { cls:=.type "enumerate",data:=.fields #[.none,.bool false,.ref s.heap.objs.size,rawInt 0,.none,.none] }).get? (yW s.heap "tuple_iterator" l).objs.size=some _:=Heap.get?_push_size _ rfl
   have q1:((yW s.heap "tuple_iterator" l).push { cls:=.type "enumerate",data:=.fields #[.none,.bool false,.ref s.heap.objs.size,rawInt 0,.none,.none] }).get? s.heap.objs.size=some _:=Heap.get?_push_of_some _ (Heap.get?_push_size _ rfl)
   show _∧_
   rw[z1] at q2 ⊢
   exact⟨⟨_,q2,rfl⟩,h _ q2 ⟨⟨_,q1,rfl,rfl⟩,k1.keep fun o q=>up _ _ q⟩ (by rw[Heap.size_push,z1]) up⟩
theorem Ar {i:Nat}{Q:Value->Shared->Prop} (S:SubIt P w it l xs st) (ne:e≠it) (nl:l≠e) (he:IsEnum s.heap e it i old) (h0:st i s.heap) (hx:xs[i]?=some x)
  (hQ:∀h',IsEnumOut h' e it ((i:Int)+1) x s.heap.objs.size->st (i+1) h'->IsPair h' s.heap.objs.size (.int i s.toks) x->h'.objs.size=s.heap.objs.size+1->
    (∀c o,c≠e->c≠it->s.heap.get? c=some o->h'.get? c=some o)->Q (.ref s.heap.objs.size) { s with heap:=h',toks:=s.toks+1 }) :
  wpAny (model P w) A (Builtin.«enumerate.__next__» ⟨[.ref e],[]⟩) (fun fin s'=>∃v,fin=.done (.ret v)∧Q v s') E s:=by
 obtain⟨hp,gn,dr,tk,os⟩:=s
 show wpAny _ _ (field (.ref e) 2>>=fun _=>_) _ _ _
 refine wpAny_bind (wpAny_field he rfl (x:=.ref it) rfl (show _ from ?_))
 refine wpAny_bind (S.item _ i _ x _ _ h0 hx fun g1 n1 e1=>(show _ from ?_))
 replace e1:Heap.SameBut it hp g1:=e1
 have c1:IsEnum g1 e it i old:=e1.extBut _ _ ne he
 show wpAny _ _ (field (.ref e) 3>>=fun _=>_) _ _ ⟨g1,gn,dr,tk,os⟩
 refine wpAny_bind (wpAny_field c1 rfl (x:=rawInt i) rfl (show _ from ?_))
 show wpAny _ _ (field (.ref e) 4>>=fun _=>_) _ _ ⟨g1,gn,dr,tk,os⟩
 refine wpAny_bind (wpAny_field c1 rfl (x:=.none) rfl (show _ from ?_))
 show wpAny _ _ (mkInt i>>=fun _=>_) _ _ ⟨g1,gn,dr,tk,os⟩
 refine wpAny_bind (wpAny_mkInt (show _ from ?_))
 show wpAny _ _ (setField (.ref e) 3 (rawInt ((i:Int)+1))>>=fun _=>_) _ _ ⟨g1,gn,dr,tk+1,os⟩
 refine wpAny_bind (wpAny_setField_rec c1 (by simp) fun g2 c2 e2=>?_)
 replace e2:Heap.SameBut e g1 g2:=e2
 replace c2:IsEnum g2 e it ((i:Int)+1) old:=c2
 show wpAny _ _ (setField (.ref e) 4 .none>>=fun _=>_) _ _ ⟨g2,gn,dr,tk+1,os⟩
 refine wpAny_bind (wpAny_setField_rec c2 (by simp) fun g3 c3 e3=>?_)
 replace e3:Heap.SameBut e g2 g3:=e3
 replace c3:IsEnum g3 e it ((i:Int)+1) old:=c3
 show wpAny _ _ (newTuple [.int i tk,x]>>=fun _=>_) _ _ ⟨g3,gn,dr,tk+1,os⟩
 refine wpAny_bind (wpAny_newTuple (show _ from ?_))
 have c4:IsEnum (g3.push { cls:=.type "tuple",data:=.seq #[.int i tk,x] }) e it ((i:Int)+1) old:=Heap.get?_push_of_some _ c3
 have sz:g3.objs.size=hp.objs.size:=by rw[e3.1,e2.1,e1.1]
 have el:e<hp.objs.size:=Heap.lt_size he
 have t4:IsPair (g3.push { cls:=.type "tuple",data:=.seq #[.int i tk,x] }) hp.objs.size (.int i tk) x:=by rw[←sz];exact Heap.get?_push_size _ rfl
 have z4:(g3.push { cls:=.type "tuple",data:=.seq #[.int i tk,x] }).objs.size=hp.objs.size+1:=by rw[Heap.size_push,sz]
 have k4:∀c o,c≠e->c≠it->hp.get? c=some o->(g3.push { cls:=.type "tuple",data:=.seq #[.int i tk,x] }).get? c=some o:=fun c o a1 a2 q=>Heap.get?_push_of_some _ (e3.extBut _ _ a1 (e2.extBut _ _ a1 (e1.extBut _ _ a2 q)))
 have n4:st (i+1) (g3.push { cls:=.type "tuple",data:=.seq #[.int i tk,x] }):=S.keep _ _ _ n1 (fun o q=>Heap.get?_push_of_some _ (e3.extBut _ _ ne.symm (e2.extBut _ _ ne.symm q))) fun o q=>Heap.get?_push_of_some _ (e3.extBut _ _ nl (e2.extBut _ _ nl q))
 revert c4 t4 z4 k4 n4
 generalize g3.push { cls:=.type "tuple",data:=.seq #[.int i tk,x] }=g4
 intro c4 t4 z4 k4 n4
 show wpAny _ _ (Builtin.SmallTypes.ownedTupleIsFree (.ref e)>>=fun _=>_) _ _ ⟨g4,gn,dr,tk+1,os⟩
 rw[sz]
 refine wpAny_bind ?_
 unfold Builtin.SmallTypes.ownedTupleIsFree
 refine wpAny_bind (wpAny_field c4 rfl (x:=.none) rfl (wpAny_pure (show _ from ?_)))
 simp only[if_true]
 refine wpAny_bind (wpAny_rule (show _ from ?_))
 refine wpAny_bind (wpAny_field c4 rfl (x:=old) rfl (show _ from ?_))
 refine wpAny_bind (wpAny_setField_rec c4 (by simp) fun g5 c5 e5=>?_)
 replace e5:Heap.SameBut e g4 g5:=e5
 replace c5:IsEnum g5 e it ((i:Int)+1) x:=c5
 show wpAny _ _ (Builtin.SmallTypes.ownedTupleHandOut (.ref e) (.ref hp.objs.size)>>=fun _=>_) _ _ ⟨g5,gn,dr,tk+1,os⟩
 refine wpAny_bind ?_
 unfold Builtin.SmallTypes.ownedTupleHandOut
 refine wpAny_bind (wpAny_setField_rec c5 (by simp) fun g6 c6 e6=>?_)
 replace e6:Heap.SameBut e g5 g6:=e6
 replace c6:IsEnumOut g6 e it ((i:Int)+1) x hp.objs.size:=c6
 refine wpAny_setField_rec c6 (by simp) fun g7 c7 e7=>?_
 replace e7:Heap.SameBut e g6 g7:=e7
 replace c7:IsEnumOut g7 e it ((i:Int)+1) x hp.objs.size:=c7
 have up:∀c o,c≠e->g4.get? c=some o->g7.get? c=some o:=fun c o a1 q=>e7.extBut _ _ a1 (e6.extBut _ _ a1 (e5.extBut _ _ a1 q))
 refine wpAny_bind (wpAny_letGo (wpAny_pure ⟨_,rfl,hQ g7 c7 ?_ (up _ _ (Nat.ne_of_gt el) t4) (by rw[e7.1,e6.1,e5.1,z4]) fun c o a1 a2 q=>up _ _ a1 (k4 _ _ a1 a2 q)⟩))
 exact S.keep _ _ _ n4 (fun o q=>up _ _ ne.symm q) fun o q=>up _ _ nl q
theorem xY {i:Nat}{Q:Option Value->Shared->Prop} (S:SubIt P w it l xs st) (ne:e≠it) (nl:l≠e) (he:IsEnum s.heap e it i old) (h0:st i s.heap) (hx:xs[i]?=some x)
  (hQ:∀h',IsEnumOut h' e it ((i:Int)+1) x s.heap.objs.size->st (i+1) h'->IsPair h' s.heap.objs.size (.int i s.toks) x->h'.objs.size=s.heap.objs.size+1->
    (∀c o,c≠e->c≠it->s.heap.get? c=some o->h'.get? c=some o)->Q (some (.ref s.heap.objs.size)) { s with heap:=h',toks:=s.toks+1 }):wpAny (model P w) A (pyNext (.ref e)) Q E s:=by
 have T:s.TypeIs (.ref e) "enumerate":=⟨_,he,rfl⟩
 unfold pyNext
 exact wpAny_bind (wpAny_attempt (wpAny_callSpecial?_slot (name:=Str.ofString "__next__") T F.slot_enumerate_next (wpAny_call_entry F.slot_enumerate_next T F.entry_enumerate_next (Ar S ne nl he h0 hx fun h' a b c d k=>wpAny_pure (hQ h' a b c d k)) (F.args_enumerate_next_1 _))))
theorem xX{i:Nat}{Q:Option Value->Shared->Prop}(hh:A.handled=none)(S:SubIt P w it l xs st)(he:IsEnum s.heap e it i old)(h0:st i s.heap)(hx:xs[i]?=none)
  (hQ:∀h',Heap.ExtBut it s.heap h'->Q none { s with heap:=h' }):wpAny (model P w) A (pyNext (.ref e)) Q E s:=by
 have T:s.TypeIs (.ref e) "enumerate":=⟨_,he,rfl⟩
 unfold pyNext
 refine wpAny_bind (wpAny_attempt (wpAny_callSpecial?_slot (name:=Str.ofString "__next__") T F.slot_enumerate_next (wpAny_call_entry F.slot_enumerate_next T F.entry_enumerate_next (show _ from ?_) (F.args_enumerate_next_1 _))))
 show wpAny _ _ (field (.ref e) 2>>=fun _=>_) _ _ _
 refine wpAny_bind (wpAny_field he rfl (x:=.ref it) rfl (show _ from ?_))
 refine wpAny_bind (S.done _ i _ _ _ (show A.in1.handled=none from hh) h0 hx fun h' y e1 hy=>?_)
 obtain⟨o,ho,hc⟩:=hy
 exact wpAny_bind (wpAny_isInstance (T := "StopIteration") (b:=true) ⟨o,ho,hc⟩ isSubtype_stop (wpAny_pure (hQ _ e1)))
end
def Mw(K:PySem.W.Frag)(b:Bool)(l:Addr):It:=
 ⟨fun i H=>∃xs x,wW b K H l xs∧xs[i]?=some x,
  fun i H v H'=>∃p,H p=none∧v=.ref p∧∀xs,wW b K H l xs->∃x,xs[i]?=some x∧H'=upd H p (.tup [.int (i:Int),x]),
  fun i H=>∃xs,wW b K H l xs∧xs[i]?=none⟩
theorem Et {P:Program}{w:World}{K:PySem.W.Frag}{elts:List Expr}{x1}{tp:Pos}{b:Bool}{e it l:Addr} (ne:e≠it) (nl:l≠e) (ni:l≠it) :
  Turn P w K (.Tuple elts x1 tp) (Mw K b l) [e,it] e (fun i h=>(∃old,IsEnum h e it i old)∧jT b it l i h) where
 mem:=by simp
 obj:=fun i h st c hc=>by
  obtain⟨⟨old,he⟩,h1⟩:=st
  simp only[List.mem_cons,List.mem_nil_iff,or_false] at hc
  rcases hc with rfl | rfl
  ·exact⟨_,he,fun v q=>by cases q⟩
  ·exact h1.obj
 keep:=fun i h h' st k=>by
  obtain⟨⟨old,he⟩,h1⟩:=st
  exact⟨⟨old,k e (by simp) _ he⟩,h1.keep fun o q=>k it (by simp) o q⟩
 item:=by
  intro X hP hw hK hc i pins s σ H E I hf st hg
  subst hP hw hK
  obtain⟨⟨old,he⟩,h1⟩:=st
  obtain⟨xs,x,s1,hx⟩:=hg
  obtain⟨its1,r1,q1,_⟩:=I.seqS s1
  obtain⟨u1,e1,ru1⟩:=r1.get hx
  refine xY (Ab b ni its1.toArray) ne nl he ⟨h1,q1⟩ (by simpa using e1) fun h' a1 a2 a3 a4 a5=>⟨_,rfl,wpAny_letOwnedTupleGo_enum a1 fun h2' he' hs'=>?_⟩
  have lt:e<s.heap.objs.size:=Heap.lt_size he
  have kk:∀c o,c∉[e,it]->s.heap.get? c=some o->h2'.get? c=some o:=fun c o hb q=>hs'.extBut _ _ (fun z=>hb (by simp[z])) (a5 c o (fun z=>hb (by simp[z])) (fun z=>hb (by simp[z])) q)
  have fresh:H s.heap.objs.size=none:=I.hok.fresh (Nat.le_refl _)
  have pr:IsPair h2' s.heap.objs.size (.int i s.toks) u1:=hs'.extBut _ _ (Nat.ne_of_gt lt) a3
  have nw:ObjOk X.prog X.w (upd H s.heap.objs.size (.tup [.int (i:Int),x])) h2' s.heap.objs.size (.tup [.int (i:Int),x]):=⟨by show 2≤sizeLine;decide,[.int i s.toks,u1],.cons ⟨_,rfl⟩ (.cons ru1 .nil),⟨_,pr,rfl,_,rfl⟩⟩
  have nfp:∀c∈[e,it],c≠s.heap.objs.size:=fun c hc z=>by
   obtain⟨o,ho⟩:∃o,s.heap.get? c=some o:=by
    simp only[List.mem_cons,List.mem_nil_iff,or_false] at hc
    rcases hc with rfl | rfl
    ·exact⟨_,he⟩
    ·obtain⟨o,q,_⟩:=h1.obj;exact⟨o,q⟩
   exact absurd (Heap.lt_size ho) (by rw[z];exact Nat.lt_irrefl _)
  refine⟨.ref s.heap.objs.size,upd H s.heap.objs.size (.tup [.int (i:Int),x]),?_,rfl,⟨_,fresh,rfl,fun xs' q1'=>⟨x,by rw[I.seqS_inj q1' s1];exact hx,rfl⟩⟩,⟨⟨_,he'⟩,(show jT b it l (i+1) h' from a2.1).keep fun o q=>hs'.extBut _ _ ne.symm q⟩,fun c hc=>by rw[upd_ne (nfp c hc)];exact (hf c hc).1⟩
  exact I.turnedLay (t':=s.toks+1) kk hf (Nat.le_refl _) nw
 done:=by
  intro X hP hw hK hc i pins s σ H E I hf st hg
  subst hP hw hK
  obtain⟨⟨old,he⟩,h1⟩:=st
  obtain⟨xs,s1,hend⟩:=hg
  obtain⟨its1,r1,q1,_⟩:=I.seqS s1
  refine xX (I.ok.hd hc) (Ab b ni its1.toArray) he ⟨h1,q1⟩ (by simpa using r1.none_of hend) fun h' e1=>?_
  exact⟨rfl,I.turnedL (t':=s.toks) (fun c o hb q=>e1 _ _ (fun z=>hb (by simp[z])) q) hf (fun c hc=>(hf c hc).2.1)⟩
 self:=fun _ _ _ _ _ st h=>by obtain⟨⟨old,he⟩,_⟩:=st;exact wpAny_pyIter_enum he h
end L2
namespace L2
open PySem PySem.Spec PyProof.Rows
open PySem.AutoSeq1 (wpAny_loadPart')
open PySem PySem.Spec PyProof.Rows
end L2
namespace LS
open PySem
def mQ(xs:Array Nat):Prop:=xs.toList.Pairwise (·< ·)
theorem mQ.lt{xs:Array Nat}(h:mQ xs){a b:Nat}(hab:a<b)(hb:b<xs.size):xs[a]<xs[b]:=by
 have:=List.pairwise_iff_getElem.mp h a b (by simpa using Nat.lt_trans hab hb) (by simpa using hb) hab
 simpa using this
structure Bel(xs:Array Nat)(j r:Nat):Prop where
 le:r≤xs.size
 lo:∀k (hk:k<xs.size),k<r->xs[k]<j
 hi:∀k (hk:k<xs.size),r≤k->j≤xs[k]
theorem rT {xs:Array Nat}{j:Nat} (h:mQ xs):∀ (fuel lo hi:Nat),hi - lo≤fuel->lo≤hi->hi≤xs.size->(∀ k (hk:k<xs.size),k<lo->xs[k]<j)->(∀ k (hk:k<xs.size),hi≤k->j≤xs[k])->Bel xs j (SetTable.below.go xs j fuel lo hi)
 |0,lo,hi,hf,hl,hs,h1,h2=>by
   unfold SetTable.below.go
   have:lo=hi:=by lia
   subst this
   exact⟨hs,h1,h2⟩
 | fuel + 1,lo,hi,hf,hl,hs,h1,h2=>by
   unfold SetTable.below.go
   by_cases c:lo<hi
   ·rw[if_pos c]
    dsimp only
    have hm:(lo+hi) / 2<hi:=by lia
    have hm':lo≤(lo+hi) / 2:=by lia
    generalize (lo+hi) / 2=mid at hm hm'
    have hms:mid<xs.size:=by lia
    have e:xs.getD mid j=xs[mid]:=by rw[Array.getD_eq_getD_getElem?,Array.getElem?_eq_getElem hms];rfl
    rw[e]
    by_cases c2:xs[mid]<j
    ·rw[if_pos c2]
     refine rT h fuel (mid+1) hi (by lia) (by lia) hs (fun k hk hkm=>?_) h2
     by_cases q:k=mid
     ·subst q;exact c2
     ·have:=h.lt (show k<mid by lia) hms;lia
    ·rw[if_neg c2]
     refine rT h fuel lo mid (by lia) hm' (by lia) h1 (fun k hk hkm=>?_)
     by_cases q:k=mid
     ·subst q;lia
     ·have:=h.lt (show mid<k by lia) hk;lia
   ·rw[if_neg c]
    have:lo=hi:=by lia
    subst this
    exact⟨hs,h1,h2⟩
theorem lL{xs:Array Nat}(h:mQ xs)(j:Nat):Bel xs j (SetTable.below xs j):=by
 unfold SetTable.below
 exact rT h xs.size 0 xs.size (by lia) (by lia) (Nat.le_refl _) (fun k hk z=>by lia) (fun k hk z=>by lia)
theorem below_at{xs:Array Nat}(h:mQ xs){i:Nat}(hi:i<xs.size):SetTable.below xs xs[i]=i:=by
 have b:=lL h xs[i]
 generalize SetTable.below xs xs[i]=r at b
 rcases Nat.lt_trichotomy r i with c | c | c
 ·have:=b.hi r (by lia) (Nat.le_refl _)
  have:=h.lt c hi
  lia
 ·exact c
 ·have:=b.lo i hi c
  lia
theorem Ai{xs:Array Nat}(h:mQ xs):SetTable.below xs 0=0:=by
 have b:=lL h 0
 generalize SetTable.below xs 0=r at b
 rcases Nat.eq_zero_or_pos r with c | c
 ·exact c
 ·have:=b.le
  have:=b.lo 0 (by lia) c
  lia
theorem Ah{xs:Array Nat}(h:mQ xs){i:Nat}(hi:i<xs.size):SetTable.below xs (xs[i]+1)=i+1:=by
 have b:=lL h (xs[i]+1)
 generalize SetTable.below xs (xs[i]+1)=r at b
 have ble:=b.le
 rcases Nat.lt_trichotomy r (i+1) with c | c | c
 ·have:=b.hi i hi (by lia)
  lia
 ·exact c
 ·have l:=b.lo (i+1) (by lia) c
  have:=h.lt (show i<i+1 by lia) (show i+1<xs.size by lia)
  lia
theorem Av {xs:Array Nat} (h:mQ xs) {j:Nat} (hj:j∉xs.toList):mQ (SetTable.insertAt xs (SetTable.below xs j) j):=by
 have b:=lL h j
 unfold mQ
 rw[SetTable.toList_insertAt]
 generalize SetTable.below xs j=r at b
 have h':(xs.toList.take r++xs.toList.drop r).Pairwise (·< ·):=by rw[List.take_append_drop];exact h
 rw[List.pairwise_append] at h' ⊢
 refine⟨h'.1,List.pairwise_cons.mpr ⟨fun x hx=>?_,h'.2.1⟩,fun x hx y hy=>?_⟩
 ·obtain⟨k,hk,rfl⟩:=List.mem_iff_getElem.mp hx
  rw[List.length_drop,Array.length_toList] at hk
  rw[List.getElem_drop]
  have:=b.hi (r+k) (by lia) (by lia)
  have ne:xs.toList[r+k]'(by simp;lia)≠j:=fun z=>hj (z ▸ List.getElem_mem _)
  simp at this ne ⊢
  lia
 ·have lt:x<j:=by
   obtain⟨k,hk,rfl⟩:=List.mem_iff_getElem.mp hx
   rw[List.length_take,Array.length_toList] at hk
   rw[List.getElem_take]
   have:=b.lo k (by lia) (by lia)
   simpa using this
  rcases List.mem_cons.mp hy with rfl | hy
  ·exact lt
  ·exact h'.2.2 x hx y hy
structure TI(L:Bool)(t:SetTable):Prop where
 ris:mQ t.place
 dum:t.dummies=#[]
 led:t.led=L
theorem TI.fresh{L:Bool}(f m:Nat):TI L (.fresh f m L):=⟨List.Pairwise.nil,rfl,rfl⟩
theorem TI.standIn{L:Bool}{t:SetTable}(h:TI L t)(n:Nat):TI L (t.standIn n):=⟨by
 unfold mQ SetTable.standIn
 rw[show (Array.range n).toList=List.range n by simp]
 exact List.pairwise_lt_range,rfl,h.led⟩
theorem TI.orStandIn{L:Bool}{t:SetTable}(h:TI L t)(n:Nat):TI L (t.orStandIn n):=by
 unfold SetTable.orStandIn
 split
 ·exact h
 ·exact h.standIn n
theorem Bu{L:Bool}{t:SetTable}(h:TI L t){j:Nat}(e:t.slot j=.empty):j∉t.place.toList:=fun hj=>by
 obtain⟨k,hk,rfl⟩:=List.mem_iff_getElem.mp hj
 have hk':k<t.place.size:=by simpa using hk
 have b:=below_at h.ris hk'
 unfold SetTable.slot at e
 simp only[Array.getElem_toList] at e
 rw[b] at e
 simp[Array.getElem?_eq_getElem hk'] at e
theorem Bt{L:Bool}{t:SetTable}(h:TI L t)(j:Nat):t.slot j≠.dummy:=fun e=>by
 unfold SetTable.slot SetTable.has at e
 rw[h.dum] at e
 dsimp only at e
 split at e
 ·cases e
 ·simp at e
theorem rH {L:Bool}{t:SetTable} (ti:TI L t) {ha:Nat->Int}{h:Int}{j:Nat}{d:Option Nat}:∀ (fuel:Nat) (p:SetTable.Probe),p.dummy=none->SetTable.probe.go t ha h fuel p=some (.empty j d)->t.slot j=.empty∧d=none
 |0,p,_,e=>by unfold SetTable.probe.go at e;cases e
 | fuel + 1,p,hp,e=>by
   unfold SetTable.probe.go at e
   split at e
   ·rename_i hs
    cases e
    exact⟨hs,hp⟩
   ·rename_i hs
    exact absurd hs (Bt ti _)
   ·split at e
    ·cases e
    ·refine rH ti fuel _ ?_ e
     unfold SetTable.advance
     split<;>exact hp
theorem Dg {L:Bool}{t:SetTable} (h:TI L t) (es:Array (Int×Value)) (hs:Int) (x:Value):TI L (layNew t es hs x).2.1:=by
 unfold layNew
 split
 ·rename_i slot wd e
  unfold SetTable.freeSlot SetTable.probe at e
  split at e
  ·rename_i j d em
   obtain⟨h1,h2⟩:=rH h _ _ rfl em
   subst h2
   cases e
   dsimp only
   refine TI.orStandIn (t:=(t.put (none.getD j)).1) (TI.mk ?_ ?_ h.led) _
   ·exact Av h.ris (Bu h h1)
   ·show (if SetTable.has t.dummies _ then _ else _)=_
    rw[h.dum]
    split
    ·rename_i c
     unfold SetTable.has at c
     simp at c
    ·rfl
  ·cases e
 ·exact h.standIn _
theorem HJ{L:Bool}{mask finger moves:Nat}{plain:Bool}{hs:Array Int}{r:SetTable×Array Nat}(e:SetTable.laid mask finger moves L plain hs=some r):TI L r.1:=by
 unfold SetTable.laid at e
 obtain⟨owner,_,e2⟩:=Option.bind_eq_some_iff.mp e
 cases e2
 refine⟨?_,rfl,rfl⟩
 unfold mQ
 dsimp only
 rw[List.pairwise_map]
 refine List.Pairwise.filterMap (R:=fun (a b:Nat)=>a<b) _ (fun a b hab x hx y hy=>?_) List.pairwise_lt_range
 obtain⟨_,_,rfl⟩:=Option.map_eq_some_iff.mp hx
 obtain⟨_,_,rfl⟩:=Option.map_eq_some_iff.mp hy
 exact hab
theorem GF {L:Bool}{t:SetTable} (h:TI L t) (es:Array (Int×Value)) (n:Nat):TI L (relayAll t es n).2.1:=by
 unfold relayAll
 split
 ·rename_i t' order e
  dsimp only
  split
  ·unfold SetTable.relaid at e
   rw[h.led] at e
   exact HJ e
  ·exact h.standIn _
 ·exact h.standIn _
end LS
namespace LS
open PySem PySem.Spec PyProof.Rows
def vInt:Value->Int
 |.int i _=>i
 |_=>0
def jL(l:List (Int×Value)):List Int:=l.map fun e=>vInt e.2
abbrev bJ(es:Array (Int×Value))(ep:Nat)(t:SetTable):Obj:={ cls:=.type "set",dict:=none,data:=.set es ep t }
structure SetG(prog:Program)(w:World)(L:Bool)(h:Heap)(a:Addr)(ks:List Int):Prop where
 ex:∃es ep t,h.get? a=some (bJ es ep t)∧ElemsOf (intKind prog w) es.toList∧(jL es.toList).Perm ks∧t.fits es.size=true∧TI L t∧es.size<scanBound
theorem CZ(h:(intKind prog w).is k v=true):∃t,v=.int k t:=by
 have h':Value.isInt k v=true:=h
 cases v<;>simp[Value.isInt] at h'
 subst h'
 exact⟨_,rfl⟩
theorem xu(h:ElemsOf (intKind prog w) l)(he:e∈l):∃t,e.2=.int (vInt e.2) t:=by
 obtain⟨⟨k,hk,_⟩,_⟩:=h e he
 obtain⟨t,q⟩:=CZ hk
 rw[q]
 exact⟨t,rfl⟩
theorem find_key(h:ElemsOf (intKind prog w) l)(k:Int):(l.findIdx? fun e=>(intKind prog w).is k e.2).isSome=decide (k∈jL l):=by
 rw[Bool.eq_iff_iff,decide_eq_true_eq,List.findIdx?_isSome,List.any_eq_true]
 unfold jL
 rw[List.mem_map]
 constructor
 ·rintro⟨e,he,q⟩
  obtain⟨t,e2⟩:=CZ q
  exact⟨e,he,by rw[e2];rfl⟩
 ·rintro⟨e,he,rfl⟩
  obtain⟨t,q⟩:=xu h he
  refine⟨e,he,?_⟩
  rw[q]
  exact intKind_is _ _ _ _
section
variable{prog:Program}{w:World}{A:Around}{E:Value->Shared->Prop}{s:Shared}{L:Bool}
theorem Aa{h:Heap}{a:Addr}{es es1:Array (Int×Value)}{ep:Nat}{t t1:SetTable}(ho:h.get? a=some (bJ es ep t)):(h.update a (Obj.putSet es1 t1)).get? a=some (bJ es1 (ep+1) t1):=by
 have q:=Heap.get?_update_self (Obj.putSet es1 t1) ho (by rw[putSet_of es1 t1 rfl];rfl)
 rw[putSet_of es1 t1 rfl] at q
 exact q
theorem Eo {g:Bool->Sem Unit} (hg:∀ (b:Bool) (s1:Shared) (R:Unit->Shared->Prop),R () s1->wpAny (model prog w) A (g b) R E s1) {a:Addr}{es es1:Array (Int×Value)}{ep:Nat}{t t2:SetTable}{ks:List Int}{wd:Bool}
  (ho:s.heap.get? a=some (bJ es ep t)) (hel:ElemsOf (intKind prog w) es1.toList) (hp:(jL es1.toList).Perm ks) (hb:es1.size<scanBound) (hf:t2.fits es1.size=true) (ti:TI L t2) {R:Option Bool->Shared->Prop}
  (h:∀h',Heap.SameBut a s.heap h'->SetG prog w L h' a ks->R (some true) { s with heap:=h' }) :
  wpAny (model prog w) A (do
    storeSet a es1 t2
    if (!wd && t2.tooFull)=true then do
        g (relayAll t2 es1 (SetTable.grown es1.size)).2.2
        storeSet a (relayAll t2 es1 (SetTable.grown es1.size)).1 (relayAll t2 es1 (SetTable.grown es1.size)).2.1
        pure (some true)
     else pure (some true)) R E s:=by
 refine wpAny_bind (wpAny_storeSet_of ho rfl ?_ (fits_of_scanBound hb))
 have o1:=Aa (es1:=es1) (t1:=t2) ho
 have b1:=Heap.SameBut.update s.heap a (Obj.putSet es1 t2)
 split
 ·have p2:=relayAll_perm t2 es1 (SetTable.grown es1.size)
  have f2:=relayAll_fits t2 es1 (SetTable.grown es1.size)
  have ti2:=GF ti es1 (SetTable.grown es1.size)
  revert p2 f2 ti2
  generalize relayAll t2 es1 (SetTable.grown es1.size)=Z
  obtain⟨es2,t3,gv⟩:=Z
  dsimp only
  intro p2 f2 ti2
  have sz:es2.size=es1.size:=by rw[←Array.length_toList,p2.length_eq,Array.length_toList]
  refine wpAny_bind (hg _ _ _ (wpAny_bind (wpAny_storeSet_of o1 rfl ?_ (fits_of_scanBound (by rw[sz];exact hb)))))
  refine wpAny_pure (h _ (b1.trans (Heap.SameBut.update _ a _)) ⟨es2,_,t3,Aa o1,hel.perm p2,(p2.map _).trans hp,f2,ti2,by rw[sz];exact hb⟩)
 ·exact wpAny_pure (h _ b1 ⟨es1,_,t2,o1,hel,hp,hf,ti,hb⟩)
theorem add_int (hS:SetG prog w L s.heap a ks) (room:ks.length + 1<scanBound)
  (h:∀h' b,Heap.SameBut a s.heap h'->SetG prog w L h' a (if k∈ks then ks else ks++[k])->Q b { s with heap:=h' }):wpAny (model prog w) A (setAddHashed a (.int k tk) ((intKind prog w).hash k)) Q E s:=by
 obtain⟨es,ep,t,ho,hel,hp,hf,ti,hb⟩:=hS.ex
 have kk:(intKind prog w).is k (.int k tk)=true:=intKind_is _ _ _ _
 have len:es.size=ks.length:=by
  have:=hp.length_eq
  unfold jL at this
  rw[List.length_map,Array.length_toList] at this
  exact this
 unfold setAddHashed setAddHashedIn
 refine wpAny_holding (wpAny_bind (wpAny_setState_of ho rfl hf ?_))
 dsimp only
 rw[byScan_of (knd:=intKind prog w) (x:=.int k tk) rfl hb hel,if_pos rfl]
 unfold setAddByScan
 refine wpAny_bind (wpAny_bind (wpAny_rule (wpAny_bind (wpAny_setScan_of kk ho rfl hf hel ?_))))
 have fk:=find_key hel k
 have mk:k∈jL es.toList ↔ k∈ks:=hp.mem_iff
 cases hr:List.findIdx? (fun e=>(intKind prog w).is k e.2) es.toList with
 |some j=>
   rw[hr] at fk
   have hk:k∈ks:=mk.mp (of_decide_eq_true fk.symm)
   have q:=h s.heap false (Heap.SameBut.refl a s.heap) (by rw[if_pos hk];exact hS)
   have e:s={ s with heap:=s.heap }:=by cases s;rfl
   rw[e]
   exact wpAny_pure (wpAny_pure q)
 | none=>
   rw[hr] at fk
   have hk:k∉ks:=fun z=>by
    have:=of_decide_eq_false fk.symm
    exact this (mk.mpr z)
   rw[if_neg hk] at h
   dsimp only
   have p1:=layNew_perm t es ((intKind prog w).hash k) (.int k tk)
   have f1:=layNew_fits t es ((intKind prog w).hash k) (.int k tk)
   have ti1:=Dg ti es ((intKind prog w).hash k) (.int k tk)
   revert p1 f1 ti1
   generalize layNew t es ((intKind prog w).hash k) (.int k tk)=Z
   obtain⟨es1,t1,wd,gv⟩:=Z
   dsimp only
   intro p1 f1 ti1
   rw[Array.toList_push] at p1
   have el1:ElemsOf (intKind prog w) es1.toList:=(hel.push kk rfl).perm p1
   have pk:(jL es1.toList).Perm (ks++[k]):=by
    refine (p1.map _).trans ?_
    rw[List.map_append]
    exact hp.append_right _
   have b1:es1.size<scanBound:=by rw[←Array.length_toList,p1.length_eq,List.length_append,Array.length_toList,len];exact room
   have gw:∀(b:Bool) (s1:Shared) (R:Unit->Shared->Prop),R () s1->wpAny (model prog w) A (match b with | true=>rule "set.scan.the-table-gave-way" | false=>pure ()) R E s1:=fun b s1 R hq=>by
    cases b
    ·exact wpAny_pure hq
    ·exact wpAny_rule hq
   refine wpAny_bind (gw gv _ _ ?_)
   split
   ·refine wpAny_bind ?_
    rw[hashByValue_scannable 8 (x:=.int k tk) rfl]
    refine wpAny_pure ?_
    simp only[plainKind,↓reduceIte]
    refine Eo ?_ ho el1 pk b1 f1 ti1 ?_
    ·intro b s1 R hq
     cases b
     ·exact wpAny_pure hq
     ·exact wpAny_rule hq
    ·intro h' sb g
     exact wpAny_pure (h h' true sb g)
   ·refine wpAny_bind (wpAny_pure ?_)
    simp only[↓reduceIte]
    refine Eo ?_ ho el1 pk b1 f1 ti1 ?_
    ·intro b s1 R hq
     cases b
     ·exact wpAny_pure hq
     ·exact wpAny_rule hq
    ·intro h' sb g
     exact wpAny_pure (h h' true sb g)
end
theorem cA:Slot "set_iterator" "__next__" "set_iterator.__next__":=.of (owner := "set_iterator") (n := "__next__") (by rw[typeLookup_type,builtinLookup_eq_fast];kernel_rfl) (by decide +kernel) (by decide +kernel) (by decide +kernel) (by first | exact .inl (by decide +kernel) | exact .inr (by decide +kernel)) (by rw[isSubtype_type];kernel_rfl)
theorem zY:Slot "set_iterator" "__iter__" "set_iterator.__iter__":=.of (owner := "set_iterator") (n := "__iter__") (by rw[typeLookup_type,builtinLookup_eq_fast];kernel_rfl) (by decide +kernel) (by decide +kernel) (by decide +kernel) (by first | exact .inl (by decide +kernel) | exact .inr (by decide +kernel)) (by rw[isSubtype_type];kernel_rfl)
theorem iD:entryFor table "set_iterator.__next__"=some Builtin.«set_iterator.__next__»:=entryFor_of_fast (by kernel_rfl)
theorem FQ:entryFor table "set_iterator.__iter__"=some Builtin.«dict_keyiterator.__iter__»:=entryFor_alias (id' := "dict_keyiterator.__iter__") (by kernel_rfl) rfl (by decide +kernel) (by kernel_rfl)
theorem wz:entryFor table "set.__iter__"=some Builtin.«frozenset.__iter__»:=entryFor_alias (id' := "frozenset.__iter__") (by kernel_rfl) rfl (by decide +kernel) (by kernel_rfl)
theorem jN(a:Value):argsOk "set_iterator.__next__" ⟨[a],[]⟩:=by unfold argsOk;kernel_rfl
theorem Hu(a:Value):argsOk "set_iterator.__iter__" ⟨[a],[]⟩:=by unfold argsOk;kernel_rfl
theorem zT (next:Nat->Nat):∀ (fuel k:Nat) (left:List α) (out:Array α),left.length=fuel->(pickOrder.go next fuel k left out).toList.Perm (out.toList++left)
 |0,k,left,out,h=>by
   have:left=[]:=List.length_eq_zero_iff.mp h
   subst this
   unfold pickOrder.go
   simp
 | fuel + 1,k,left,out,h=>by
   unfold pickOrder.go
   have hm:next k%left.length<left.length:=Nat.mod_lt _ (by lia)
   generalize next k%left.length=m at hm
   rw[List.getElem?_eq_getElem hm]
   dsimp only
   refine (zT next fuel (k+1) (left.eraseIdx m) (out.push left[m]) (by rw[List.length_eraseIdx,if_pos hm];lia)).trans ?_
   rw[Array.toList_push,List.append_assoc]
   refine List.Perm.append_left _ ?_
   have:∀ (l:List α) (t:Nat) (ht:t<l.length),(l[t]::l.eraseIdx t).Perm l:=by
    intro l
    induction l with
    |nil=>intro t ht;exact absurd ht (by simp)
    |cons a l ih=>
      intro t ht
      cases t with
      |zero=>exact .refl _
      |succ t=>exact (List.Perm.swap a _ _).trans ((ih t (by simpa using ht)).cons a)
   exact this left m hm
theorem Dz(next:Nat->Nat)(xs:Array α):(pickOrder next xs).toList.Perm xs.toList:=by
 unfold pickOrder
 exact (zT next xs.size 0 xs.toList #[] (by simp)).trans (by simp)
section
variable{prog:Program}{w:World}{A:Around}{E:Value->Shared->Prop}{s:Shared}
theorem wB(hn:n≠0)(h:∀i d',i<n->Q i { s with drawn:=d' }):wpAny (model prog w) A (choose src n) Q E s:=fun Γ p hΓ=>⟨hn,h _ _ (Nat.mod_lt _ (by lia))⟩
theorem vO:∀ (n:Nat) (xs:List Nat) {s:Shared}{Q:List Nat->Shared->Prop},xs.length=n->(∀ ys d',ys.Perm xs->Q ys { s with drawn:=d' })->wpAny (model prog w) A (drawOrder n xs) Q E s
 |0,xs,s,Q,h,q=>by
   have:xs=[]:=List.length_eq_zero_iff.mp h
   subst this
   unfold drawOrder
   exact wpAny_pure (q [] s.drawn (.refl _))
 |n+1,[],s,Q,h,q=>by cases h
 | n + 1,x::xs,s,Q,h,q=>by
   unfold drawOrder
   refine wpAny_bind (wB (by simp) fun i d' hi=>?_)
   rw[List.getElem?_eq_getElem hi]
   dsimp only
   refine wpAny_bind (vO n ((x::xs).eraseIdx i) (by rw[List.length_eraseIdx,if_pos hi];simp at h ⊢;lia) fun ys d2 p=>wpAny_pure (q _ d2 ?_))
   refine (p.cons _).trans ?_
   have:∀ (l:List Nat) (t:Nat) (ht:t<l.length),(l[t]::l.eraseIdx t).Perm l:=by
    intro l
    induction l with
    |nil=>intro t ht;exact absurd ht (by simp)
    |cons a l ih=>
      intro t ht
      cases t with
      |zero=>exact .refl _
      |succ t=>exact (List.Perm.swap a _ _).trans ((ih t (by simpa using ht)).cons a)
   exact this _ i hi
end
abbrev lR(vs:Array Value):Obj:={ cls:=.type "set_iterator",data:=.fields vs }
abbrev cP(w:World):Bool:=w.params.followText "set-order"
def pK(w:World)(h:Heap)(I a tp:Addr)(es:Array (Int×Value))(ep:Nat)(t:SetTable)(ord:List Value)(i:Nat):Prop:=
 (cP w=true∧h.get? I=some (lR #[.int 0 0,.int i 0,.ref a,.int es.size 0,.int ep 0])∧ord=(pickOrder (w.params.setOrder a ep) es).toList.map (·.2))
 ∨ (cP w=false∧(!t.plain&&decide (es.size > 1))=false∧∃sl:Nat,h.get? I=some (lR #[.int sl 0,.int i 0,.ref a,.int es.size 0,.int ep 0])∧SetTable.below t.place sl=i∧ord=es.toList.map (·.2))
 ∨ (cP w=false∧(!t.plain&&decide (es.size > 1))=true∧∃ps,tp≠I∧h.get? I=some (lR #[.ref tp,.int i 0,.ref a,.int es.size 0,.int ep 0])∧h.get? tp=some { cls:=.type "tuple",data:=.seq ((ps:List Nat).map fun (p:Nat)=>rawInt (p:Int)).toArray }∧ps.Perm (List.range es.size)∧ord=ps.map (fun p=>(es.getD p (0,.none)).2))
section
variable{prog:Program}{w:World}{A:Around}{E:Value->Shared->Prop}{s:Shared}{I a tp:Addr}{es:Array (Int×Value)}{ep:Nat}{t:SetTable}{ord:List Value}{i:Nat}
theorem jh{h:Heap}{vs:Array Value}{k:Nat}{v:Value}(e:h.get? I=some (lR vs)):(h.update I (Obj.mapFields (·.setIfInBounds k v))).get? I=some (lR (vs.setIfInBounds k v)):=by
 have q:=Heap.get?_update_self (Obj.mapFields (·.setIfInBounds k v)) e (Obj.isFreed_of_fields (Obj.data_mapFields rfl _))
 rw[q]
 rfl
theorem Dr(hb:cP w=true)(ho:s.heap.get? a=some (bJ es ep t))(hf:t.fits es.size=true){sl:Nat}{Q:Option (Value×Nat)->Shared->Prop}(q:Q (((pickOrder (w.params.setOrder a ep) es)[i]?).map fun e=>(e.2,sl)) s) :
  wpAny (model prog w) A (setNext a sl i ep) Q E s:=by
 unfold setNext setsByText
 refine wpAny_bind (wpAny_setState_of ho rfl hf ?_)
 refine wpAny_bind (wpAny_bind (wpAny_askSetting (wpAny_pure ?_)))
 have hb':(model prog w).w.params.followText "set-order"=true:=hb
 rw[if_pos hb']
 simp only[bne_self_eq_false,Bool.false_eq_true,↓reduceIte]
 unfold setWalk setsByText
 refine wpAny_bind (wpAny_bind (wpAny_setState_of ho rfl hf ?_))
 refine wpAny_bind (wpAny_bind (wpAny_askSetting (wpAny_pure ?_)))
 rw[if_pos hb']
 exact wpAny_bind (wpAny_askSetting (wpAny_pure (wpAny_pure q)))
theorem Dt (hb:cP w=false) (hd:(!t.plain && decide (es.size > 1))=false) (ti:TI (!cP w) t) (ho:s.heap.get? a=some (bJ es ep t)) (hf:t.fits es.size=true) {sl:Nat}{Q:Option (Value×Nat)->Shared->Prop}
  (q:Q (match es[SetTable.below t.place sl]?,t.place[SetTable.below t.place sl]? with
    |some (_,x),some j=>some (x,j+1)
    |_,_=>none) s):wpAny (model prog w) A (setNext a sl i ep) Q E s:=by
 unfold setNext setsByText
 refine wpAny_bind (wpAny_setState_of ho rfl hf ?_)
 refine wpAny_bind (wpAny_bind (wpAny_askSetting (wpAny_pure ?_)))
 have hb':¬ (model prog w).w.params.followText "set-order"=true:=by rw[show (model prog w).w.params.followText "set-order"=cP w from rfl,hb];decide
 rw[if_neg hb']
 have hl:t.led=true:=by rw[ti.led,hb];rfl
 show wpAny _ _ (if (!t.plain&&decide (es.size > 1))=true then _ else _) _ _ _
 rw[hd,if_neg (by decide)]
 refine wpAny_bind ?_
 show wpAny _ _ (if (!t.led&&!es.isEmpty)=true then _ else _) _ _ _
 rw[hl]
 exact wpAny_pure (wpAny_pure q)
theorem next_item (ho:s.heap.get? a=some (bJ es ep t)) (hf:t.fits es.size=true) (ti:TI (!cP w) t) (hne:a≠I) (c:pK w s.heap I a tp es ep t ord i) (hi:i<ord.length) {Q:Option Value->Shared->Prop}
  (q:∀h',Heap.SameBut I s.heap h'->pK w h' I a tp es ep t ord (i+1)->Q (some ord[i]) { s with heap:=h' }):wpAny (model prog w) A (pyNext (.ref I)) Q E s:=by
 have ho':∀(k:Nat) (v:Value),(s.heap.update I (Obj.mapFields (·.setIfInBounds k v))).get? a=some (bJ es ep t):=fun k v=>by
  rw[Heap.get?_update_other _ _ (fun z=>hne z.symm)];exact ho
 have sz:(((es.size:Nat):Int) != ((es.size:Nat):Int))=false:=bne_self_eq_false _
 have sb2:∀(v1 v2:Value) (k1 k2:Nat),Heap.SameBut I s.heap ((s.heap.update I (Obj.mapFields (·.setIfInBounds k1 v1))).update I (Obj.mapFields (·.setIfInBounds k2 v2))):=fun v1 v2 k1 k2=>(Heap.SameBut.update _ I _).trans (Heap.SameBut.update _ I _)
 rcases c with ⟨hb,hI,e⟩ | ⟨hb,hd,sl,hI,hs,e⟩ | ⟨hb,hd,ps,htp,hI,hT,hp,e⟩
 ·have ty:s.TypeIs (.ref I) "set_iterator":=⟨_,hI,rfl⟩
  unfold pyNext
  refine wpAny_bind (wpAny_attempt (wpAny_callSpecial?_slot (name:=Str.ofString "__next__") ty cA (wpAny_call_entry cA ty iD ?_ (jN _))))
  unfold Builtin.«set_iterator.__next__» slotArgs
  refine wpAny_bind (wpAny_pure ?_)
  refine wpAny_bind (wpAny_fieldsOf hI rfl ?_)
  dsimp only
  refine wpAny_bind (wpAny_setEntries_of ho rfl hf ?_)
  rw[sz,if_neg (by decide)]
  refine wpAny_bind (Dr hb ho hf ?_)
  have hi':i<(pickOrder (w.params.setOrder a ep) es).size:=by rw[e] at hi;simpa using hi
  have oi:ord[i]=((pickOrder (w.params.setOrder a ep) es)[i]).2:=by subst e;simp
  rw[show ((i:Int)).toNat=i from Int.toNat_natCast i,Array.getElem?_eq_getElem hi']
  dsimp only[Option.map_some]
  refine wpAny_bind (wpAny_setField hI rfl (by simp) ?_)
  refine wpAny_bind (wpAny_setField (jh hI) rfl (by simp) ?_)
  refine wpAny_pure ⟨_,rfl,wpAny_pure ?_⟩
  rw[←oi]
  refine q _ (sb2 _ _ _ _) (.inl ⟨hb,?_,e⟩)
  rw[jh (jh hI)]
  simp[rawInt]
 ·have ty:s.TypeIs (.ref I) "set_iterator":=⟨_,hI,rfl⟩
  unfold pyNext
  refine wpAny_bind (wpAny_attempt (wpAny_callSpecial?_slot (name:=Str.ofString "__next__") ty cA (wpAny_call_entry cA ty iD ?_ (jN _))))
  unfold Builtin.«set_iterator.__next__» slotArgs
  refine wpAny_bind (wpAny_pure ?_)
  refine wpAny_bind (wpAny_fieldsOf hI rfl ?_)
  dsimp only
  refine wpAny_bind (wpAny_setEntries_of ho rfl hf ?_)
  rw[sz,if_neg (by decide)]
  refine wpAny_bind (Dt hb hd ti ho hf ?_)
  have hi':i<es.size:=by rw[e] at hi;simpa using hi
  have hps:t.place.size=es.size:=by
   simp only[SetTable.fits,Bool.and_eq_true,beq_iff_eq] at hf
   exact hf.1
  have hi2:i<t.place.size:=by rw[hps];exact hi'
  have oi:ord[i]=(es[i]).2:=by subst e;simp
  rw[show ((sl:Int)).toNat=sl from Int.toNat_natCast sl,hs,Array.getElem?_eq_getElem hi',Array.getElem?_eq_getElem hi2]
  dsimp only
  refine wpAny_bind (wpAny_setField hI rfl (by simp) ?_)
  refine wpAny_bind (wpAny_setField (jh hI) rfl (by simp) ?_)
  refine wpAny_pure ⟨_,rfl,wpAny_pure ?_⟩
  rw[←oi]
  refine q _ (sb2 _ _ _ _) (.inr (.inl ⟨hb,hd,t.place[i]+1,?_,Ah ti.ris hi2,e⟩))
  rw[jh (jh hI)]
  simp[rawInt]
 ·have ty:s.TypeIs (.ref I) "set_iterator":=⟨_,hI,rfl⟩
  have hpl:ps.length=es.size:=by rw[hp.length_eq,List.length_range]
  have hi':i<ps.length:=by rw[e] at hi;simpa using hi
  have hpi:ps[i]<es.size:=List.mem_range.mp (hp.mem_iff.mp (List.getElem_mem hi'))
  unfold pyNext
  refine wpAny_bind (wpAny_attempt (wpAny_callSpecial?_slot (name:=Str.ofString "__next__") ty cA (wpAny_call_entry cA ty iD ?_ (jN _))))
  unfold Builtin.«set_iterator.__next__» slotArgs
  refine wpAny_bind (wpAny_pure ?_)
  refine wpAny_bind (wpAny_fieldsOf hI rfl ?_)
  dsimp only
  refine wpAny_bind (wpAny_setEntries_of ho rfl hf ?_)
  rw[sz,if_neg (by decide)]
  refine wpAny_bind (wpAny_seqItems hT rfl ?_)
  have g:((ps.map fun (p:Nat)=>rawInt (p:Int)).toArray)[i]?=some (rawInt (ps[i]:Int)):=by simp[hi']
  rw[show ((i:Int)).toNat=i from Int.toNat_natCast i]
  dsimp only
  rw[g]
  dsimp only[rawInt]
  unfold setNextDrawn
  refine wpAny_bind (wpAny_bind (wpAny_setState_of ho rfl hf ?_))
  simp only[bne_self_eq_false,Bool.false_eq_true,↓reduceIte,Int.toNat_natCast]
  rw[Array.getElem?_eq_getElem hpi]
  dsimp only
  refine wpAny_pure ?_
  refine wpAny_bind (wpAny_setField hI rfl (by simp) ?_)
  refine wpAny_pure ⟨_,rfl,wpAny_pure ?_⟩
  have oi:ord[i]=(es[ps[i]]).2:=by subst e;simp[hpi]
  rw[←oi]
  refine q _ (Heap.SameBut.update _ I _) (.inr (.inr ⟨hb,hd,ps,htp,?_,?_,hp,e⟩))
  ·rw[jh hI]
   simp
  ·rw[Heap.get?_update_other _ _ (fun z=>htp z.symm)];exact hT
end
section
variable{prog:Program}{w:World}{A:Around}{E:Value->Shared->Prop}{s:Shared}{I a tp:Addr}{es:Array (Int×Value)}{ep:Nat}{t:SetTable}{ord:List Value}{i:Nat}
theorem sY(hh:A.handled=none){R:Fin->Shared->Prop}{Q:Option Value->Shared->Prop}(q:∀h',(∀b o,s.heap.get? b=some o->h'.get? b=some o)->Q none { s with heap:=h' }) :
  wpAny (model prog w) A.in1 (do raiseNew (←newExc (.type "StopIteration") [])) R (fun e s'=>wpAny (model prog w) A (do if ←isInstance e (.type "StopIteration") then pure none else throw e) Q E s') s:=by
 refine wpAny_bind ?_
 simp only[newExc,newTuple]
 refine wpAny_bind (wpAny_newObj_type ?_ (by size_fits))
 refine wpAny_bind (m:=firstArgMember _ _) (wpAny_of_eq (a:=.none) (by first | rfl | (simp only[firstArgMember];rfl)) (wpAny_newObj_type ?_ (by size_fits)))
 simp only[raiseNew]
 refine wpAny_bind (wpAny_handled ?_)
 have h1:A.in1.handled=none:=hh
 rw[h1]
 refine wpAny_bind (wpAny_pure (wpAny_throw ?_))
 refine wpAny_bind (wpAny_isInstance (T := "StopIteration") (b:=true) ⟨_,Heap.get?_push_size _ rfl,rfl⟩ isSubtype_stop ?_)
 exact wpAny_pure (q _ fun b o e=>Heap.get?_push_of_some _ (Heap.get?_push_of_some _ e))
theorem next_end(hh:A.handled=none)(ho:s.heap.get? a=some (bJ es ep t))(hf:t.fits es.size=true)(ti:TI (!cP w) t)(c:pK w s.heap I a tp es ep t ord ord.length){Q:Option Value->Shared->Prop}
  (q:∀h',(∀b o,b≠I->s.heap.get? b=some o->h'.get? b=some o)->Q none { s with heap:=h' }):wpAny (model prog w) A (pyNext (.ref I)) Q E s:=by
 have sz:(((es.size:Nat):Int) != ((es.size:Nat):Int))=false:=bne_self_eq_false _
 have k1:∀(v1:Value) (k1:Nat) b o,b≠I->s.heap.get? b=some o->(s.heap.update I (Obj.mapFields (·.setIfInBounds k1 v1))).get? b=some o:=fun v1 k1 b o hb e=>by
  rw[Heap.get?_update_other _ _ (fun z=>hb z.symm)];exact e
 rcases c with ⟨hb,hI,e⟩ | ⟨hb,hd,sl,hI,hs,e⟩ | ⟨hb,hd,ps,htp,hI,hT,hp,e⟩
 ·have ty:s.TypeIs (.ref I) "set_iterator":=⟨_,hI,rfl⟩
  unfold pyNext
  refine wpAny_bind (wpAny_attempt (wpAny_callSpecial?_slot (name:=Str.ofString "__next__") ty cA (wpAny_call_entry cA ty iD ?_ (jN _))))
  unfold Builtin.«set_iterator.__next__» slotArgs
  refine wpAny_bind (wpAny_pure (wpAny_bind (wpAny_fieldsOf hI rfl ?_)))
  dsimp only
  refine wpAny_bind (wpAny_setEntries_of ho rfl hf ?_)
  rw[sz,if_neg (by decide)]
  refine wpAny_bind (Dr hb ho hf ?_)
  have hi':(pickOrder (w.params.setOrder a ep) es)[((ord.length:Int)).toNat]?=none:=by rw[Int.toNat_natCast,Array.getElem?_eq_none_iff,e];simp
  rw[hi']
  dsimp only[Option.map_none]
  refine wpAny_bind (wpAny_setField hI rfl (by simp) ?_)
  exact sY hh fun h' k=>q h' fun b o hb e=>k b o (k1 _ _ b o hb e)
 ·have ty:s.TypeIs (.ref I) "set_iterator":=⟨_,hI,rfl⟩
  unfold pyNext
  refine wpAny_bind (wpAny_attempt (wpAny_callSpecial?_slot (name:=Str.ofString "__next__") ty cA (wpAny_call_entry cA ty iD ?_ (jN _))))
  unfold Builtin.«set_iterator.__next__» slotArgs
  refine wpAny_bind (wpAny_pure (wpAny_bind (wpAny_fieldsOf hI rfl ?_)))
  dsimp only
  refine wpAny_bind (wpAny_setEntries_of ho rfl hf ?_)
  rw[sz,if_neg (by decide)]
  refine wpAny_bind (Dt hb hd ti ho hf ?_)
  have hi':es[ord.length]?=none:=by rw[Array.getElem?_eq_none_iff,e];simp
  rw[show ((sl:Int)).toNat=sl from Int.toNat_natCast sl,hs,hi']
  dsimp only
  refine wpAny_bind (wpAny_setField hI rfl (by simp) ?_)
  exact sY hh fun h' k=>q h' fun b o hb e=>k b o (k1 _ _ b o hb e)
 ·have ty:s.TypeIs (.ref I) "set_iterator":=⟨_,hI,rfl⟩
  unfold pyNext
  refine wpAny_bind (wpAny_attempt (wpAny_callSpecial?_slot (name:=Str.ofString "__next__") ty cA (wpAny_call_entry cA ty iD ?_ (jN _))))
  unfold Builtin.«set_iterator.__next__» slotArgs
  refine wpAny_bind (wpAny_pure (wpAny_bind (wpAny_fieldsOf hI rfl ?_)))
  dsimp only
  refine wpAny_bind (wpAny_setEntries_of ho rfl hf ?_)
  rw[sz,if_neg (by decide)]
  refine wpAny_bind (wpAny_seqItems hT rfl ?_)
  have g:((ps.map fun (p:Nat)=>rawInt (p:Int)).toArray)[((ord.length:Int)).toNat]?=none:=by rw[Int.toNat_natCast,Array.getElem?_eq_none_iff,e];simp
  dsimp only
  rw[g]
  dsimp only
  refine wpAny_bind (wpAny_setField hI rfl (by simp) ?_)
  refine wpAny_bind (wpAny_setField (jh hI) rfl (by simp) ?_)
  refine sY hh fun h' k=>q h' fun b o hb e=>k b o ?_
  rw[Heap.get?_update_other _ _ (fun z=>hb z.symm)]
  exact k1 _ _ b o hb e
theorem Ge (ho:s.heap.get? a=some (bJ es ep t)) (hf:t.fits es.size=true) (ti:TI (!cP w) t) (hb:es.size<scanBound)
  (q:∀h' d' I tp ord,s.heap.objs.size≤I->(∀b o,s.heap.get? b=some o->h'.get? b=some o)->I<h'.objs.size->(tp=a∨(s.heap.objs.size≤tp∧tp<h'.objs.size))->pK w h' I a tp es ep t ord 0->ord.Perm (es.toList.map (·.2))->Q (.ref I) { s with heap:=h',drawn:=d' }):wpAny (model prog w) A (pyIter (.ref a)) Q E s:=by
 have ty:s.TypeIs (.ref a) "set":=⟨_,ho,rfl⟩
 refine wpAny_pyIter_slot ty F.slot_set_iter (wpAny_call_entry F.slot_set_iter ty wz ?_ (F.args_set_iter_1 _))
 unfold Builtin.«frozenset.__iter__» Builtin.Frozenset.slot0 slotArgs Builtin.Frozenset.addrOf Builtin.Frozenset.sizeOf setDrawn setsByText
 simp only[List.isEmpty_nil,Bool.not_true,Bool.false_eq_true,↓reduceIte,bind_assoc,List.length_nil,bne_self_eq_false]
 refine wpAny_bind (wpAny_pure (wpAny_bind (wpAny_pure ?_)))
 refine wpAny_bind (wpAny_setEntries_of ho rfl hf (wpAny_bind (wpAny_pure ?_)))
 refine wpAny_bind (wpAny_setState_of ho rfl hf ?_)
 refine wpAny_bind (wpAny_askSetting (wpAny_bind (wpAny_pure (wpAny_bind (wpAny_pure ?_)))))
 show wpAny _ _ (if (!cP w&&(!t.plain&&decide (es.size > 1)))=true then _ else _) _ _ _
 by_cases hc:(!cP w&&(!t.plain&&decide (es.size > 1)))=true
 ·rw[if_pos hc]
  rw[Bool.and_eq_true] at hc
  have hB:cP w=false:=by simpa using hc.1
  refine wpAny_bind (vO es.size (List.range es.size) (by simp) fun ps d' hp=>?_)
  have pl:ps.length=es.size:=by rw[hp.length_eq,List.length_range]
  simp only[newTuple,newFields]
  refine wpAny_bind (wpAny_newObj_type ?_ (by show _≤sizeLine;have:=fits_of_scanBound hb;simp;lia))
  have ho1:=Heap.get?_push_of_some { cls:=.type "tuple",data:=.seq ((ps.map fun (i:Nat)=>rawInt (i:Int)).toArray) } ho
  refine wpAny_bind (wpAny_setEpoch_of ho1 rfl hf ?_)
  refine wpAny_bind (wpAny_newObj_type (wpAny_pure ⟨_,rfl, "set_iterator",_,⟨_,Heap.get?_push_size _ rfl,rfl⟩,cA.lookup,?_⟩) (by show _≤_;simp[sizeLine_eq]))
  refine q _ d' _ s.heap.objs.size (ps.map (fun p=>(es.getD p (0,.none)).2)) (by dsimp only;simp only[Heap.size_push];lia) (fun b o e=>Heap.get?_push_of_some _ (Heap.get?_push_of_some _ e)) (by dsimp only;simp only[Heap.size_push];lia) (.inr ⟨Nat.le_refl _,by dsimp only;simp only[Heap.size_push];exact Nat.lt_succ_of_lt (Nat.lt_succ_self _)⟩) (.inr (.inr ⟨hB,hc.2,ps,?_,Heap.get?_push_size _ rfl,Heap.get?_push_of_some _ (Heap.get?_push_size _ rfl),hp,rfl⟩)) ?_
  ·dsimp only;simp only[Heap.size_push];exact Nat.ne_of_lt (Nat.lt_succ_self _)
  ·refine (hp.map _).trans (List.Perm.of_eq ?_)
   apply List.ext_getElem?
   intro k
   by_cases hk:k<es.size
   ·simp[hk,Array.getD]
   ·rw[List.getElem?_eq_none (by simp;lia),List.getElem?_eq_none (by simp;lia)]
 ·rw [if_neg hc]
  refine wpAny_bind (wpAny_pure ?_)
  simp only[newFields]
  refine wpAny_bind (wpAny_setEpoch_of ho rfl hf ?_)
  refine wpAny_bind (wpAny_newObj_type (wpAny_pure ⟨_,rfl, "set_iterator",_,⟨_,Heap.get?_push_size _ rfl,rfl⟩,cA.lookup,?_⟩) (by show _≤_;simp[sizeLine_eq]))
  have fin:∀ord,pK w (s.heap.push (lR #[.int 0 0,.int 0 0,.ref a,.int es.size 0,.int ep 0])) s.heap.objs.size a a es ep t ord 0->ord.Perm (es.toList.map (·.2))->Q (.ref s.heap.objs.size) { s with heap:=s.heap.push (lR #[.int 0 0,.int 0 0,.ref a,.int es.size 0,.int ep 0]) }:=fun ord c p=>
   q _ s.drawn s.heap.objs.size a ord (Nat.le_refl _) (fun b o e=>Heap.get?_push_of_some _ e) (by rw[Heap.size_push];lia) (.inl rfl) c p
  cases hB:cP w with
  |true=>exact fin _ (.inl ⟨hB,Heap.get?_push_size _ rfl,rfl⟩) ((Dz _ es).map _)
  |false=>
    rw[hB] at hc
    have hd:(!t.plain&&decide (es.size > 1))=false:=by simpa using hc
    exact fin _ (.inr (.inl ⟨hB,hd,0,Heap.get?_push_size _ rfl,Ai ti.ris,rfl⟩)) (.refl _)
theorem pK.at(c:pK w h I a tp es ep t ord i)(k1:∀o,h.get? I=some o->h'.get? I=some o)(k2:∀o,h.get? tp=some o->h'.get? tp=some o):pK w h' I a tp es ep t ord i:=by
 rcases c with ⟨hb,hI,e⟩ | ⟨hb,hd,sl,hI,hs,e⟩ | ⟨hb,hd,ps,htp,hI,hT,hp,e⟩
 ·exact .inl ⟨hb,k1 _ hI,e⟩
 ·exact .inr (.inl ⟨hb,hd,sl,k1 _ hI,hs,e⟩)
 ·exact .inr (.inr ⟨hb,hd,ps,htp,k1 _ hI,k2 _ hT,hp,e⟩)
theorem pK.ty(c:pK w h I a tp es ep t ord i):∃vs,h.get? I=some (lR vs):=by
 rcases c with ⟨hb,hI,e⟩ | ⟨hb,hd,sl,hI,hs,e⟩ | ⟨hb,hd,ps,htp,hI,hT,hp,e⟩<;>exact⟨_,hI⟩
theorem Ew(hh:A.handled=none)(hf:t.fits es.size=true)(ti:TI (!cP w) t)(hne:a≠I) :
  Walks prog w A I [I,a,tp] [I] ord.length (fun i v=>ord[i]?=some v) (fun i h=>h.get? a=some (bJ es ep t)∧pK w h I a tp es ep t ord i) where
 sub:=fun b hb=>by simp at hb;simp[hb]
 frame:=fun _ _ _ st hk=>⟨hk a (by simp) _ st.1,st.2.at (fun o e=>hk I (by simp) o e) fun o e=>hk tp (by simp) o e⟩
 item:=fun i s Q E hi st hQ=>next_item st.1 hf ti hne st.2 hi fun h' sb c=>hQ _ h' s.toks (by simp[hi]) ⟨sb.extBut a _ hne st.1,c⟩ fun b o hb e=>sb.extBut b o (fun h=>hb (by simp[h])) e
 done:=fun s Q E st hQ=>next_end hh st.1 hf ti st.2 fun h' k=>hQ h' s.toks fun b o hb e=>k b o (fun h=>hb (by simp[h])) e
 self:=fun i s Q E st hQ=>by
  obtain⟨vs,hI⟩:=st.2.ty
  have ty:s.TypeIs (.ref I) "set_iterator":=⟨_,hI,rfl⟩
  exact wpAny_pyIter_slot ty zY (wpAny_call_entry zY ty FQ (wpAny_pure ⟨_,rfl, "set_iterator",_,ty,cA.lookup,hQ⟩) (Hu _))
end
theorem SetG.at(g:SetG prog w L h a ks)(k:∀o,h.get? a=some o->h'.get? a=some o):SetG prog w L h' a ks:=by
 obtain⟨es,ep,t,ho,r⟩:=g.ex
 exact⟨es,ep,t,k _ ho,r⟩
theorem yS (ks:List Int) (k:Int):(if k∈ks then ks else ks++[k])=step_dedup ks k:=by
 unfold step_dedup
 by_cases h:k∈ks
 ·rw[if_pos h,if_pos (List.any_eq_true.mpr ⟨k,h,by simp⟩)]
 ·rw[if_neg h,if_neg (fun z=>by
   obtain⟨x,hx,e⟩:=List.any_eq_true.mp z
   exact h (by rw[←beq_iff_eq.mp e];exact hx))]
section
variable{prog:Program}{w:World}{A:Around}{R:Result->Shared->Prop}{I:Addr}{fp wr:List Addr}{G:Array GenState->Array GenState->Prop}{n:Nat}{P:Nat->Value->Prop}{St:Nat->Shared->Prop}{L:Bool}
theorem uc (W:WalksS prog w A.in1 I fp wr G n P St) (S:Addr) (hSf:S∉fp) (val:Nat->Int) (hval:∀ i v,P i v->∃ t,v=.int (val i) t) (hb:n + 1<scanBound):∀ (k i:Nat) (s:Shared),n - i=k->i≤n->St i s->SetG prog w L s.heap S (firstMet val i)->
  (∀s',Moved (S::wr) G s s'->SetG prog w L s'.heap S (firstMet val n)->R (.ok (.ret .none)) s')->codeAny (model prog w) A (.builtin "set.update.loop" ⟨[.ref S,.ref I],[]⟩) R s:=by
 have nw:S∉wr:=fun h=>hSf (W.sub _ h)
 have sub:∀b∈wr,b∈S::wr:=fun b hb=>.tail _ hb
 intro k
 induction k with
 |zero=>
   intro i s hk hi hst g hR
   obtain rfl:i=n:=by lia
   refine codeAny_builtin PyProof.Rows.F.entry_set_update_loop ?_
   rw[Around.under_plainId PyProof.Rows.F.plain_set_update_loop _]
   refine wpAny_bind (m:=pyNext (.ref I)) (W.done s _ _ hst fun s' hm=>?_)
   exact wpAny_pure (hR s' (hm.mono sub) (g.at fun o e=>hm.heap S _ nw e))
 | succ k ih=>
   intro i s hk hi hst g hR
   have lt:i<n:=by lia
   refine codeAny_builtin PyProof.Rows.F.entry_set_update_loop ?_
   rw[Around.under_plainId PyProof.Rows.F.plain_set_update_loop _]
   refine wpAny_bind (m:=pyNext (.ref I)) (W.item i s _ _ lt hst fun v s' hP hst' hm=>?_)
   obtain⟨t,rfl⟩:=hval i v hP
   have g':=g.at (h':=s'.heap) fun o e=>hm.heap S _ nw e
   refine wpAny_bind (m:=holding [Value.int (val i) t] (setAdd S (.int (val i) t))) (wpAny_holding ?_)
   unfold setAdd
   refine wpAny_holding (wpAny_bind ((intKind prog w).pyHash (k:=val i) (intKind_is _ _ _ _) ?_))
   have room:(firstMet val i).length+1<scanBound:=by have:=firstMet_length_le val i;lia
   refine add_int (s:={ s' with toks:=s'.toks+1 }) g' room fun h' b sb g2=>?_
   rw[yS,←firstMet_succ] at g2
   refine wpAny_pure ⟨plainId_quiet PyProof.Rows.F.plain_set_update_loop _,ih (i+1) _ (by lia) lt (W.frame _ s' _ _ hst' (Nat.le_succ _) fun c hc o e=>?_) g2 fun s2 hm2 g3=>?_⟩
   ·rw[sb.2 c (fun z=>hSf (z ▸ hc))];exact e
   ·refine hR s2 (Moved.trans W.gtrans ((hm.mono sub).then_heap (Nat.le_succ _) fun c o hc e=>?_) hm2) g3
    rw[sb.2 c (fun z=>hc (z ▸ List.mem_cons_self))];exact e
end
section
variable{prog:Program}{w:World}{A:Around}{E:Value->Shared->Prop}{s:Shared}
theorem HY(v:Value)(h:Q (.ref s.heap.objs.size) { s with heap:=s.heap.push (bJ #[] 0 (.fresh 0 0 (!cP w))) }) :
  codeAny (model prog w) A (.call (.builtin "set.__new__") ⟨[.type "set",v],[]⟩) (wants Q E) s:=by
 refine codeAny_of_tree (wpAny_bind (m:=checkBuiltinCall "set.__new__" ⟨[.type "set",v],[]⟩) (wpAny_of_eq (F.newCall_set_1 v) (wpAny_pure ⟨plainId_quiet F.plain_set_new _,codeAny_builtin F.entry_set_new ?_⟩)))
 rw[Around.under_plainId F.plain_set_new _]
 unfold Builtin.«set.__new__» Builtin.Frozenset.newClass
 have hsub:=sub_set_self
 obtain⟨hp,g,d,tk,os⟩:=s
 dsimp only
 wp_walk
 refine wpAny_askSetting (wpAny_pure ?_)
 dsimp only
 simp only[newObj]
 exact wpAny_bind (wpAny_alloc (wpAny_pure (wpAny_pure h)))
end
theorem ints_of:∀ {l:List (Int×Value)},ElemsOf (intKind prog w) l->IntsAre (l.map (·.2)) (jL l)
 |[],_=>.nil
 |e::l,h=>by
   obtain⟨t,q⟩:=xu h (List.mem_cons_self (a:=e) (l:=l))
   show IntsAre (e.2::l.map (·.2)) (vInt e.2::jL l)
   have ih:=ints_of (prog:=prog) (w:=w) (l:=l) fun x hx=>h x (.tail _ hx)
   rw[q]
   exact .cons _ _ ih
theorem CW (h:IntsAre vs ns) (p:vs'.Perm vs):∃ ns',IntsAre vs' ns'∧ns'.Perm ns:=by
 have key:∀ {vs:List Value}{ns:List Int},IntsAre vs ns->ns=vs.map vInt∧∀ v∈vs,∃ t,v=.int (vInt v) t:=fun {vs ns} h=>by
  induction h with
  |nil=>exact⟨rfl,fun v hv=>by cases hv⟩
  |cons n t hr ih=>
    refine⟨by rw[List.map_cons,←ih.1];rfl,fun v hv=>?_⟩
    rcases List.mem_cons.mp hv with rfl | hv
    ·exact⟨t,rfl⟩
    ·exact ih.2 v hv
 obtain⟨e,k⟩:=key h
 have back:∀ (l:List Value),(∀ v∈l,∃ t,v=.int (vInt v) t)->IntsAre l (l.map vInt):=by
  intro l
  induction l with
  |nil=>intro _;exact .nil
  |cons v l ih=>
    intro hl
    obtain⟨t,q⟩:=hl v (List.mem_cons_self)
    have r:=ih fun x hx=>hl x (.tail _ hx)
    rw[List.map_cons]
    generalize vInt v=i at q ⊢
    subst q
    exact .cons _ _ r
 refine⟨vs'.map vInt,back vs' fun v hv=>k v (p.mem_iff.mp hv),?_⟩
 rw[e]
 exact p.map _
theorem Hh(h:b+1≤a):a≠b:=by lia
section
variable{prog:Program}{w:World}{A:Around}{E:Value->Shared->Prop}{s:Shared}
theorem Ga(ho:s.heap.get? a=some (bJ es ep t))(q:Q false s):wpAny (model prog w) A (Builtin.List.listLengthHint (.ref a)) Q E s:=by
 have ty:s.TypeIs (.ref a) "set":=⟨_,ho,rfl⟩
 unfold Builtin.List.listLengthHint
 refine wpAny_bind (wpAny_specialOf ty F.slot_set_len.lookup ?_)
 have sp:splitId "set.__len__"=some ("set", "__len__"):=by decide +kernel
 dsimp only
 rw[sp]
 dsimp only
 refine wpAny_bind (wpAny_isInstance (b:=true) ty sub_set_self ?_)
 refine wpAny_bind (wpAny_typeOf ty ?_)
 exact wpAny_pure q
theorem yZ (hh:A.handled=none) (g:SetG prog w (!cP w) s.heap a ks) (h:∀ h' tk d' vs ns,IntsAre vs ns->ns.Perm ks->s.heap.objs.size≤h'.objs.size->(∀ b o,s.heap.get? b=some o->h'.get? b=some o)->Q vs { s with heap:=h',toks:=tk,drawn:=d' }):wpAny (model prog w) A (collect (.ref a)) Q E s:=by
 obtain⟨es,ep,t,ho,hel,hp,hf,ti,hb⟩:=g.ex
 have ia:=ints_of hel
 unfold collect
 refine wpAny_bind (wpAny_runValue (codeAny_builtin F.entry_proto_collect ?_))
 rw[Around.under_plainId F.plain_proto_collect _]
 refine wpAny_bind (m:=newList []) (wpAny_newObj_type (wpAny_pure ⟨plainId_quiet F.plain_list_iadd _,codeAny_builtin F.entry_list_iadd ?_⟩))
 rw[Around.under_plainId F.plain_list_iadd _]
 have ha:a<s.heap.objs.size:=Heap.lt_size ho
 have ne:s.heap.objs.size≠a:=fun z=>by rw[z] at ha;exact Nat.lt_irrefl _ ha
 have sr:Builtin.List.listSameRef (.ref s.heap.objs.size) (.ref a)=false:=by simp[Builtin.List.listSameRef,ne]
 have lst0:(s.heap.push (seqObj "list" #[] 0)).get? s.heap.objs.size=some (seqObj "list" #[] 0):=Heap.get?_push_size _ rfl
 have ho1:(s.heap.push (seqObj "list" #[] 0)).get? a=some (bJ es ep t):=Heap.get?_push_of_some _ ho
 show wpAny _ A.in1 (Builtin.List.listExtendWith (.ref s.heap.objs.size) (.ref a) (.ref s.heap.objs.size)) _ _ { s with heap:=s.heap.push (seqObj "list" #[] 0) }
 unfold Builtin.List.listExtendWith
 refine wpAny_bind (wpAny_typeOf (T := "set") ⟨_,ho1,rfl⟩ ?_)
 rw[if_neg (by rw[sr];decide)]
 refine wpAny_bind (Ge (s:={ s with heap:=s.heap.push (seqObj "list" #[] 0) }) ho1 hf ti hb fun h1 d1 I tp ord hI k1 hI1 htp c po=>?_)
 have ho2:=k1 a _ ho1
 have lst1:=k1 _ _ lst0
 have szI:s.heap.objs.size+1≤I:=by have:(s.heap.push (seqObj "list" #[] 0)).objs.size≤I:=hI;rw[Heap.size_push] at this;exact this
 refine wpAny_bind (wpAny_holding (Ga ho2 ?_))
 dsimp only
 refine wpAny_bind (m:=rule _) (wpAny_rule ?_)
 unfold Builtin.List.listTouch
 refine wpAny_bind (wpAny_bind (listUpdate_at lst1 rfl ?_ (by simp) (by simp)))
 have lst2:=get?_update_seq lst1 (fun x:Array Value=>x.push .none)
 refine listUpdate_at lst2 rfl ?_ (by simp[sizeLine_eq]) (by simp)
 have lst3:=get?_update_seq lst2 (fun x:Array Value=>x.pop)
 have up:∀b o,b≠s.heap.objs.size->h1.get? b=some o->((h1.update s.heap.objs.size (Obj.mapSeq fun x=>x.push .none)).update s.heap.objs.size (Obj.mapSeq fun x=>x.pop)).get? b=some o:=fun b o hb e=>by
  rw[Heap.get?_update_ne _ _ _ _ hb,Heap.get?_update_ne _ _ _ _ hb];exact e
 have neI:I≠s.heap.objs.size:=Hh szI
 have netp:tp≠s.heap.objs.size:=by
  rcases htp with z | ⟨z,_⟩
  ·rw[z];exact fun q=>ne q.symm
  ·have:s.heap.objs.size+1≤tp:=by have:(s.heap.push (seqObj "list" #[] 0)).objs.size≤tp:=z;rw[Heap.size_push] at this;exact this
   exact Hh this
 have hne:a≠I:=Nat.ne_of_lt (Nat.lt_trans ha szI)
 have hh1:A.in1.in1.handled=none:=by simp[hh]
 have W:=(Ew (prog:=prog) (w:=w) (A:=A.in1) (I:=I) (a:=a) (tp:=tp) (es:=es) (ep:=ep) (t:=t) (ord:=ord) (by simp[hh]) hf ti hne).toS
 have ol:ord.length=es.size:=by rw[po.length_eq];simp
 refine wpAny_pure ⟨plainId_quiet F.plain_extend_loop _,codeAny_extend_loopS W (by rw[ol];exact fits_of_scanBound hb) s.heap.objs.size (by simp;exact⟨fun z=>neI z.symm,ne,fun z=>netp z.symm⟩) _ ord.length 0 _ #[] _ rfl (Nat.zero_le _) ⟨up a _ (fun q=>ne q.symm) ho2,c.at (fun o e=>up I o neI e) fun o e=>up tp o netp e⟩ lst3 (ItemsOf.nil _) fun s' acc c' hm hS' hacc=>?_⟩
 refine wpAny_bind (m:=load s.heap.objs.size) (wpAny_load hS' ?_)
 have ea:acc.toList=ord:=by
  apply List.ext_getElem?
  intro k
  by_cases hk:k<acc.size
  ·have:=hacc.2 k acc[k] (by rw[Array.getElem?_eq_getElem hk])
   rw[this,Array.getElem?_toList,Array.getElem?_eq_getElem hk]
  ·rw[List.getElem?_eq_none (by simp;lia),List.getElem?_eq_none (by have:=hacc.1;lia)]
 obtain⟨h2,g2,d2,tk2,os2⟩:=s'
 have eg:g2=s.gens:=hm.gens
 have ed:d2=d1:=hm.drawn
 have eo:os2=s.os:=hm.os
 subst eg ed eo
 obtain⟨ns,hi,hpn⟩:=CW ia (vs':=acc.toList) (by rw[ea];exact po)
 refine wpAny_pure (h h2 tk2 d2 acc.toList ns hi (hpn.trans hp) (Nat.le_of_lt (Heap.lt_size hS')) fun b o e=>?_)
 have lt:b<s.heap.objs.size:=Heap.lt_size e
 refine hm.heap b o (by simp;exact⟨Nat.ne_of_lt lt,Nat.ne_of_lt (Nat.lt_trans lt szI)⟩) (up b o (Nat.ne_of_lt lt) (k1 b o (Heap.get?_push_of_some _ e)))
theorem Bw(hh:A.handled=none)(g:SetG prog w (!cP w) s.heap a ks)(h64:ks.length<64)
  (h:∀h' tk d' p n vs ns,s.heap.objs.size≤p->h'.get? p=some (seqObj "list" (vs:List Value).toArray n)->IntsAre vs ns->ns.Perm ks->ns.Pairwise (·≤ ·)->(∀b o,s.heap.get? b=some o->h'.get? b=some o)->Q (.ref p) { s with heap:=h',toks:=tk,drawn:=d' }) :
  wpAny (model prog w) A (call (.builtin "sorted") [.ref a]) Q E s:=by
 refine Calls.call_function_entry kind_sorted plain_sorted entry_sorted (args_sorted1 _) ?_
 unfold Builtin.«sorted»
 refine wpAny_bind (m:=checkCount "sorted" 1 1 _) (wpAny_pure ?_)
 refine wpAny_bind (yZ (by simp[hh]) g fun h1 tk1 d1 vs ns hi hp sz k1=>?_)
 have vl:vs.length=ns.length:=IntsAre.length hi
 have nl:ns.length=ks.length:=hp.length_eq
 have zl:vs.toArray.size≤sizeLine:=by rw[List.size_toArray,sizeLine_eq];lia
 refine wpAny_bind (wpAny_newList ?_ zl)
 have oL:(h1.push (seqObj "list" vs.toArray 0)).get? h1.objs.size=some (seqObj "list" vs.toArray 0):=Heap.get?_push_size _ rfl
 refine wpAny_bind (wpAny_holding (wpAny_call_entry slot_list_sort ⟨_,oL,rfl⟩ entry_list_sort (list_sort_tree oL hi (by lia) fun out ns' a1 a2 a3=>⟨_,rfl,?_⟩) (args_list_sort _)))
 obtain⟨e,he⟩:=sortedHeap_at (out:=out) oL
 refine wpAny_pure ⟨_,rfl,h _ _ _ h1.objs.size e out.toList ns' sz (by simpa using he) a1 (a2.trans hp) a3 fun b o eb=>?_⟩
 have lt:=Heap.lt_size (k1 b o eb)
 rw[sortedHeap_old (Nat.ne_of_lt lt) (by rw[size_push'];exact Nat.lt_succ_of_lt lt)]
 exact Heap.get?_push_of_some _ (k1 b o eb)
end
end LS
namespace L2
open PySem PySem.Spec PyProof.Rows LS
def nW(x:Int):List Int->List Int
 |[]=>[x]
 |y::r=>if x≤y then x::y::r else y::nW x r
theorem pU (x:Int):∀ l:List Int,(nW x l).Perm (x::l)
 |[]=>.refl _
 |y::r=>by
   unfold nW
   split
   ·exact .refl _
   ·exact ((pU x r).cons y).trans (.swap x y r)
theorem vP (x:Int):∀ {l:List Int},l.Pairwise (·≤ ·)->(nW x l).Pairwise (·≤ ·)
 |[],_=>by simp[nW]
 | y::r,h=>by
   unfold nW
   split
   ·rename_i c
    refine List.pairwise_cons.mpr ⟨fun z hz=>?_,h⟩
    rcases List.mem_cons.mp hz with rfl | hz
    ·exact c
    ·exact Int.le_trans c ((List.pairwise_cons.mp h).1 z hz)
   ·rename_i c
    have h':=List.pairwise_cons.mp h
    refine List.pairwise_cons.mpr ⟨fun z hz=>?_,vP x h'.2⟩
    rcases List.mem_cons.mp ((pU x r).mem_iff.mp hz) with rfl | hz
    ·lia
    ·exact h'.1 z hz
def lG(ns:List Int):List Int:=(ns.foldl step_dedup []).foldr nW []
theorem gA:∀ l:List Int,(l.foldr nW []).Perm l∧(l.foldr nW []).Pairwise (·≤ ·)
 |[]=>⟨.refl _,by simp⟩
 |x::l=>by
   obtain⟨a,b⟩:=gA l
   exact⟨(pU x _).trans (a.cons x),vP x b⟩
theorem mL:∀ {a b:List Int},a.Perm b->a.Pairwise (·≤ ·)->b.Pairwise (·≤ ·)->a=b
 |[],b,p,_,_=>p.nil_eq
 |x::a,[],p,_,_=>by have:=p.length_eq;simp at this
 | x::a,y::b,p,ha,hb=>by
   have h1:=List.pairwise_cons.mp ha
   have h2:=List.pairwise_cons.mp hb
   have xy:x=y:=by
    have m1:x∈y::b:=p.mem_iff.mp (List.mem_cons_self)
    have m2:y∈x::a:=p.mem_iff.mpr (List.mem_cons_self)
    rcases List.mem_cons.mp m1 with e | m1
    ·exact e
    ·rcases List.mem_cons.mp m2 with e | m2
     ·exact e.symm
     ·exact Int.le_antisymm (h1.1 y m2) (h2.1 x m1)
   subst xy
   rw[mL (List.Perm.cons_inv p) h1.2 h2.2]
theorem Iv(ns:List Int):(lG ns).length≤ns.length:=by
 unfold lG
 rw[(gA _).1.length_eq]
 exact foldl_step_dedup_nil_length_le ns
theorem xF(ns:List Int):firstMet (fun i=>ns.getD i 0) ns.length=ns.foldl step_dedup []:=by
 unfold firstMet
 congr 1
 apply List.ext_getElem?
 intro k
 by_cases hk:k<ns.length
 ·simp[hk]
 ·rw[List.getElem?_eq_none (by simp;lia),List.getElem?_eq_none (by lia)]
theorem vR:∀ {ns:List Int}{us:List Value},Vals (ns.map V.int) us->IntsAre us ns
 |[],_,.nil=>.nil
 |n::ns,_,.cons r rr=>by
   obtain⟨t,rfl⟩:=r
   exact .cons n t (vR rr)
theorem w6:bootBuiltins "sorted"=some (.builtin "sorted"):=by decide +kernel
theorem Cm:bootBuiltins "set"=some (.type "set"):=by decide +kernel
end L2
namespace LS
open PySem PySem.Spec PyProof.Rows
section
variable{prog:Program}{w:World}{A:Around}{E:Value->Shared->Prop}{s:Shared}
theorem Cw {l:Addr}{items:Array Value}{ns:List Int}{Q:Value->Shared->Prop} (hh:A.handled=none) (hl:s.heap.IsTuple l items) (hi:IntsAre items.toList ns) (hb:items.size + 1<scanBound)
  (h:∀(h':Heap) (tk:Nat),SetG prog w (!cP w) h' s.heap.objs.size (firstMet (fun i=>ns.getD i 0) items.size)->(∀b o,b<s.heap.objs.size->s.heap.get? b=some o->h'.get? b=some o)->Q (.ref s.heap.objs.size) { s with heap:=h',toks:=tk }) :
  wpAny (model prog w) A (call (.type "set") [.ref l]) Q E s:=by
 obtain⟨c,tl,hmro⟩:=F.called_set.mro
 have hmade:=F.called_set.made
 have hsub:=F.called_set.sub
 refine wpAny_call (codeAny_of_tree (wpAny_pure ⟨Code.quiet_builtin _ (by decide +kernel),codeAny_builtin F.entry_type_call ?_⟩))
 rw[Around.under_plain (weight_type_call_type "set" [.ref l] []) rfl]
 have h1:=F.called_set.notType
 have h2:=F.called_set.canCreate
 have hct:=F.typeCall_set_1 (.ref l)
 repeat (any_goals (first | assumption | wp_step))
 refine codeAny_mono (HY (.ref l) (E:=E) (Q:=fun obj s1=>obj=.ref s.heap.objs.size∧s1={ s with heap:=s.heap.push (bJ #[] 0 (.fresh 0 0 (!cP w))) }) ⟨rfl,rfl⟩) fun r s1 hr=>?_
 cases r with
 |error e=>exact hr
 | ok fl=>
   cases fl with
   | ret obj=>
     obtain⟨rfl,rfl⟩:=hr
     have hS:(s.heap.push (bJ #[] 0 (.fresh 0 0 (!cP w)))).get? s.heap.objs.size=some (bJ #[] 0 (.fresh 0 0 (!cP w))):=Heap.get?_push_size _ rfl
     have hT:Shared.TypeIs { s with heap:=s.heap.push (bJ #[] 0 (.fresh 0 0 (!cP w))) } (.ref s.heap.objs.size) "set":=⟨_,hS,rfl⟩
     have hli:=F.called_set.init.lookup
     have hbi:=F.called_set.init.bind (.ref s.heap.objs.size)
     repeat (any_goals (first | assumption | wp_step))
     refine codeAny_mono (codeAny_call_builtin (R:=wants (fun r s2=>r=.none∧∃h' tk,s2={ s with heap:=h',toks:=tk }∧SetG prog w (!cP w) h' s.heap.objs.size (firstMet (fun i=>ns.getD i 0) items.size) ∧
       (∀b o,b<s.heap.objs.size->s.heap.get? b=some o->h'.get? b=some o)) E) F.called_set.init.plain F.entry_set_init (check_set_init_1 hT ?_)) fun r2 s2 hr2=>?_
     ·obtain ⟨ol,hol,hcl,nl,hdl⟩:=hl
      obtain⟨ocls,odict,odata,oslots⟩:=ol
      simp only at hcl hdl
      subst hcl;subst hdl
      have hol':(s.heap.push (bJ #[] 0 (.fresh 0 0 (!cP w)))).get? l=some { cls:=.type "tuple",dict:=odict,data:=.seq items nl,slots:=oslots }:=Heap.get?_push_of_some _ hol
      have hsls:=F.sub_tuple_set
      have hslf:=F.sub_tuple_frozenset
      have hne:(Value.type "tuple"==Value.type "dict")=false:=by decide
      have hl1:(s.heap.push (bJ #[] 0 (.fresh 0 0 (!cP w)))).IsTuple l items:=⟨_,hol',rfl,nl,rfl⟩
      unfold Builtin.«set.__init__» noKeywords Builtin.Frozenset.updateFrom
      generalize hPI:pyIter=PI
      wp_walk
      subst hPI
      refine wpAny_pyIter_tuple hl1 (wpAny_bind (wpAny_runValue ?_))
      have hlS:l<s.heap.objs.size:=Heap.lt_size hol
      have hh3:A.in1.in1.in1.handled=none:=by simp[hh]
      have hneI:l≠(s.heap.push (bJ #[] 0 (.fresh 0 0 (!cP w)))).objs.size:=by
       rw[Heap.size_push];exact Nat.ne_of_lt (Nat.lt_succ_of_lt hlS)
      have hSf:s.heap.objs.size∉[(s.heap.push (bJ #[] 0 (.fresh 0 0 (!cP w)))).objs.size,l]:=by
       rw[Heap.size_push];simp only[List.mem_cons,List.mem_singleton,List.not_mem_nil,or_false,not_or]
       exact⟨Nat.ne_of_lt (Nat.lt_succ_self _),Nat.ne_of_gt hlS⟩
      have hval:∀(i:Nat) (v:Value),items[i]?=some v->∃t,v=.int ((fun i=>ns.getD i 0) i) t:=fun i v hv=>IntsAre.int_at hi i v (by rw[Array.getElem?_toList];exact hv)
      refine uc (L:=!cP w) ((Walks.tuple hh3 _ l hneI items).toS) s.heap.objs.size hSf (fun i=>ns.getD i 0) hval hb (items.size-0) 0 _ (by lia) (Nat.zero_le _) ⟨⟨_,Heap.get?_push_size _ rfl,rfl,rfl⟩,(hl1.push _)⟩ ?hS0 ?hR
      case hS0=>exact⟨#[],0,_,Heap.get?_push_of_some _ hS,(fun e he=>by simp at he),.refl _,rfl,TI.fresh 0 0,by decide⟩
      case hR=>
       intro s' hm hS'
       obtain⟨h',g',d',tk',os'⟩:=s'
       have eg:g'=s.gens:=hm.gens
       have ed:d'=s.drawn:=hm.drawn
       have eo:os'=s.os:=hm.os
       subst eg;subst ed;subst eo
       refine wpAny_pure (wpAny_pure ⟨rfl,h',tk',rfl,hS',fun b o hb e=>?_⟩)
       have hb2:b≠(s.heap.push (bJ #[] 0 (.fresh 0 0 (!cP w)))).objs.size:=by
        rw[Heap.size_push];exact Nat.ne_of_lt (Nat.lt_succ_of_lt hb)
       exact hm.heap b o (by simp only[List.mem_cons,List.mem_singleton,List.not_mem_nil,or_false,not_or];exact⟨Nat.ne_of_lt hb,hb2⟩) (Heap.get?_push_of_some _ (Heap.get?_push_of_some _ e))
     ·cases r2 with
      |error e=>exact hr2
      | ok fl2=>
        cases fl2 with
        |ret r=>
          obtain⟨rfl,h',tk,rfl,hS',hk'⟩:=hr2
          repeat (any_goals (first | assumption | wp_step))
          exact h _ _ hS' hk'
        |_=>exact hr2.elim
   |_=>exact hr.elim
end
end LS
namespace L2
open PySem PySem.Spec PyProof.Rows LS
end L2
namespace LB
open PySem PySem.W PyProof.Rows
end LB
namespace LB
open PySem PySem.W PySem.Calls PyProof.Rows
end LB
namespace L2
open PySem PySem.Spec PyProof.Rows LS LB
end L2
namespace LB
open PySem PySem.W PySem.Calls PyProof.Rows
end LB
namespace L2
open PySem PySem.Spec PyProof.Rows LS LB
end L2
namespace LA
open PySem LS
end LA
namespace LA
open PySem LS PyProof.Rows
end LA
namespace L2
open PySem PySem.Spec PyProof.Rows LS LA LB
end L2
namespace LA
open PySem PySem.Spec PyProof.Rows LS LB
end LA
namespace L2
open PySem PySem.Spec PyProof.Rows LS LA LB
end L2
namespace LA
open PySem PySem.Spec PyProof.Rows LS
end LA
namespace L3
open PySem PySem.Spec L2
open PyProof.Rows hiding St
inductive D where
 |non | bl (b:Bool) | int (i:Int) | str (x:Str)
 |tup (l:List D) | lst (l:List D)
 |dic (ks:List Key) (vs:List D)
 |obj (c:Str) (ns:List Str) (vs:List D)
 |scr (ns:List Int)
 |ref (n:Nat)
 |cls (c:Str) | ty (t:String)
 |exn (a:Addr)
instance:Inhabited D:=⟨.non⟩
inductive DO where
 |lst (l:List D)
 |dic (ks:List Key) (vs:List D)
 |ins (c:Str) (ns:List Str) (vs:List D)
abbrev Mo:=List DO
inductive R(α:Type) where
 |ok (a:α) | exc (c:Str)
def DM(α:Type):=Mo->Option (R α×Mo)
@[reducible] def DM.pure{α:Type}(a:α):DM α:=fun M=>some (.ok a,M)
def DM.bind{α β:Type}(m:DM α)(f:α->DM β):DM β:=fun M=>match m M with
 |none=>none
 |some (.exc c,M')=>some (.exc c,M')
 |some (.ok a,M')=>f a M'
instance:Monad DM where
 pure:=DM.pure
 bind:=DM.bind
def rd{α:Type}(f:Mo->Option α):DM α:=fun M=>(f M).map fun a=>(.ok a,M)
def opt{α:Type}(o:Option α):DM α:=fun M=>o.map fun a=>(.ok a,M)
def stuck{α:Type}:DM α:=fun _=>none
def raise{α:Type}(c:Str):DM α:=fun M=>some (.exc c,M)
abbrev ao:=List (Option D)
structure Rh where
 st:List Addr
 vo:List Addr
instance:Membership Addr Rh:=⟨fun ρ a=>a∈ρ.st∨a∈ρ.vo⟩
def Rh.put(ρ:Rh)(p:Addr):Rh:=⟨ρ.st++[p],ρ.vo⟩
def Rh.hold(ρ:Rh)(p:Addr):Rh:=⟨ρ.st,p::ρ.vo⟩
mutual
inductive Cv(mg:Str->Option Value)(ρ:Rh)(H:Hp):V->D->Prop
 |non:Cv mg ρ H .non .non
 |bl (b:Bool):Cv mg ρ H (.bl b) (.bl b)
 |int (i:Int):Cv mg ρ H (.int i) (.int i)
 |str (x:Str):Cv mg ρ H (.str x) (.str x)
 |tup {a:Addr}{xs:List V}{ds:List D}:a∉ρ->H a=some (.tup xs)->Cvs mg ρ H xs ds->Cv mg ρ H (.ref a) (.tup ds)
 |lst {a:Addr}{xs:List V}{ds:List D}:a∉ρ->H a=some (.lst xs)->Cvs mg ρ H xs ds->Cv mg ρ H (.ref a) (.lst ds)
 |dic {a:Addr}{ks:List Key}{xs:List V}{ds:List D}:a∉ρ->H a=some (.dK (ks.zip xs))->ks.length=xs.length->Cvs mg ρ H xs ds->Cv mg ρ H (.ref a) (.dic ks ds)
 |obj {a C dx:Addr}{c:Str}{ns:List Str}{xs:List V}{ds:List D}:a∉ρ->mg c=some (.ref C)->H a=some (.ins C dx (ns.zip xs))->ns.length=xs.length->Cvs mg ρ H xs ds->Cv mg ρ H (.ref a) (.obj c ns ds)
 |scr {a:Addr}{ns:List Int}:a∉ρ->Rd H a (.lst (ns.map V.int))->Cv mg ρ H (.ref a) (.scr ns)
 |ref {n:Nat}{a:Addr}:ρ.st[n]?=some a->Cv mg ρ H (.ref a) (.ref n)
 |cls {c:Str}{C:Addr}:mg c=some (.ref C)->Cv mg ρ H (.ref C) (.cls c)
 |ty (t:String):Cv mg ρ H (.ty t) (.ty t)
 |exn (a:Addr):Cv mg ρ H (.ref a) (.exn a)
inductive Cvs(mg:Str->Option Value)(ρ:Rh)(H:Hp):List V->List D->Prop
 |nil:Cvs mg ρ H [] []
 |cons {v:V}{d:D}{vs:List V}{ds:List D}:Cv mg ρ H v d->Cvs mg ρ H vs ds->Cvs mg ρ H (v::vs) (d::ds)
end
structure Ext(ρ:Rh)(H:Hp)(ρ':Rh)(H':Hp):Prop where
 pre:∃τ,ρ'.st=ρ.st++τ
 vo:ρ'.vo=ρ.vo
 new:∀a,a∈ρ'.st->a∉ρ.st->H a=none
 keep:∀a o,H a=some o->a∉ρ.st->H' a=some o
theorem Ext.refl:Ext ρ H ρ H:=⟨⟨[],by simp⟩,rfl,fun a h n=>absurd h n,fun _ _ h _=>h⟩
theorem Ext.keeps(e:Ext ρ H ρ' H')(h:H a=some o)(n:a∉ρ):H' a=some o:=e.keep a o h fun z=>n (.inl z)
theorem Ext.out1(e:Ext ρ H ρ' H')(h:H a=some o)(n:a∉ρ.st):a∉ρ'.st:=fun z=>by
 have:=e.new a z n
 rw[h] at this;cases this
theorem Ext.out(e:Ext ρ H ρ' H')(h:H a=some o)(n:a∉ρ):a∉ρ':=fun z=>by
 rcases z with z | z
 ·exact e.out1 h (fun y=>n (.inl y)) z
 ·rw[e.vo] at z;exact n (.inr z)
theorem Ext.trans (e:Ext ρ H ρ1 H1) (f:Ext ρ1 H1 ρ2 H2):Ext ρ H ρ2 H2:=by
 refine⟨?_,f.vo.trans e.vo,fun a h n=>?_,fun a o h n=>f.keep a o (e.keep a o h n) (e.out1 h n)⟩
 ·obtain⟨τ,h1⟩:=e.pre
  obtain⟨υ,h2⟩:=f.pre
  exact⟨τ++υ,by rw[h2,h1,List.append_assoc]⟩
 ·by_cases z:a∈ρ1.st
  ·exact e.new a z n
  ·cases q:H a with
   |none=>rfl
   |some o=>
     have:=f.new a h z
     rw[e.keep a o q n] at this;cases this
theorem Ext.at(e:Ext ρ H ρ' H'){n:Nat}(h:ρ.st[n]?=some a):ρ'.st[n]?=some a:=by
 obtain⟨τ,h1⟩:=e.pre
 rw[h1,List.getElem?_append_left (List.getElem?_eq_some_iff.mp h).1];exact h
theorem Rh.nhold{ρ:Rh}{a p:Addr}(h:a∉ρ)(n:a≠p):a∉ρ.hold p:=fun z=>by
 rcases z with z | z
 ·exact h (.inl z)
 ·rcases List.mem_cons.mp z with z | z
  ·exact n z
  ·exact h (.inr z)
theorem Rd.some(h:Rd H a u):∃o,H a=some o:=by
 rcases h with h | ⟨o,h⟩
 ·exact⟨_,h⟩
 ·exact⟨_,h⟩
section
variable{mg:Str->Option Value}{ρ ρ':Rh}{H H':Hp}
mutual
theorem Cv.mono (e:Ext ρ H ρ' H'):∀ {v:V}{d:D},Cv mg ρ H v d->Cv mg ρ' H' v d
 |_,_,.non=>.non
 |_,_,.bl b=>.bl b
 |_,_,.int i=>.int i
 |_,_,.str x=>.str x
 |_,_,.tup n h c=>.tup (e.out h n) (e.keeps h n) (Cvs.mono e c)
 |_,_,.lst n h c=>.lst (e.out h n) (e.keeps h n) (Cvs.mono e c)
 |_,_,.dic n h l c=>.dic (e.out h n) (e.keeps h n) l (Cvs.mono e c)
 |_,_,.obj n m h l c=>.obj (e.out h n) m (e.keeps h n) l (Cvs.mono e c)
 |_,_,.scr n h=>.scr (by obtain⟨o,q⟩:=Rd.some h;exact e.out q n) (by
   rcases h with h | ⟨o,h⟩
   ·exact .inl (e.keeps h n)
   ·exact .inr ⟨o,e.keeps h n⟩)
 |_,_,.ref h=>.ref (e.at h)
 |_,_,.cls h=>.cls h
 |_,_,.ty t=>.ty t
 |_,_,.exn a=>.exn a
theorem Cvs.mono(e:Ext ρ H ρ' H'):∀{vs:List V}{ds:List D},Cvs mg ρ H vs ds->Cvs mg ρ' H' vs ds
 |_,_,.nil=>.nil
 |_,_,.cons h t=>.cons (Cv.mono e h) (Cvs.mono e t)
end
theorem Cvs.len:∀{vs:List V}{ds:List D},Cvs mg ρ H vs ds->vs.length=ds.length
 |_,_,.nil=>rfl
 |_,_,.cons _ t=>by rw[List.length_cons,List.length_cons,Cvs.len t]
theorem Cvs.append:∀{vs us:List V}{ds es:List D},Cvs mg ρ H vs ds->Cvs mg ρ H us es->Cvs mg ρ H (vs++us) (ds++es)
 |_,_,_,_,.nil,h=>h
 |_,_,_,_,.cons a b,h=>.cons a (Cvs.append b h)
theorem Cvs.take:∀{vs:List V}{ds:List D} (n:Nat),Cvs mg ρ H vs ds->Cvs mg ρ H (vs.take n) (ds.take n)
 |_,_,0,_=>by simp only[List.take_zero];exact .nil
 |_,_,n+1,.nil=>by simp only[List.take_nil];exact .nil
 |_,_,n+1,.cons a b=>by simp only[List.take_succ_cons];exact .cons a (Cvs.take n b)
theorem Cvs.drop:∀{vs:List V}{ds:List D} (n:Nat),Cvs mg ρ H vs ds->Cvs mg ρ H (vs.drop n) (ds.drop n)
 |_,_,0,h=>by simp only[List.drop_zero];exact h
 |_,_,n+1,.nil=>by simp only[List.drop_nil];exact .nil
 |_,_,n+1,.cons a b=>by simp only[List.drop_succ_cons];exact Cvs.drop n b
theorem Cvs.get:∀ {vs:List V}{ds:List D}{i:Nat}{d:D},Cvs mg ρ H vs ds->ds[i]?=some d->∃ v,vs[i]?=some v∧Cv mg ρ H v d
 |_,_,i,_,.nil,e=>by simp at e
 |_,_,0,_,.cons h _,e=>by simp at e;subst e;exact⟨_,rfl,h⟩
 |_,_,i+1,_,.cons _ t,e=>by
   obtain⟨v,q,c⟩:=Cvs.get (i:=i) t (by simpa using e)
   exact⟨v,by simpa using q,c⟩
theorem Cvs.set(h:Cv mg ρ H v d):∀{vs:List V}{ds:List D} (i:Nat),Cvs mg ρ H vs ds->Cvs mg ρ H (vs.set i v) (ds.set i d)
 |_,_,_,.nil=>.nil
 |_,_,0,.cons _ t=>.cons h t
 |_,_,i+1,.cons a t=>.cons a (Cvs.set h i t)
theorem Cvs.reverse:∀{vs:List V}{ds:List D},Cvs mg ρ H vs ds->Cvs mg ρ H vs.reverse ds.reverse
 |_,_,.nil=>.nil
 |_,_,.cons a t=>by simp only[List.reverse_cons];exact (Cvs.reverse t).append (.cons a .nil)
theorem Cvs.ints:∀ns:List Int,Cvs mg ρ H (ns.map V.int) (ns.map D.int)
 |[]=>.nil
 |n::ns=>.cons (.int n) (Cvs.ints ns)
def o5(mg:Str->Option Value)(ρ:Rh)(H:Hp)(a:Addr):DO->Prop
 |.lst l=>∃xs,H a=some (.lst xs)∧Cvs mg ρ H xs l
 |.dic ks l=>∃xs,H a=some (.dK (ks.zip xs))∧ks.length=xs.length∧Cvs mg ρ H xs l
 |.ins c ns l=>∃C dx xs,mg c=some (.ref C)∧H a=some (.ins C dx (ns.zip xs))∧ns.length=xs.length∧Cvs mg ρ H xs l
theorem o5.some(h:o5 mg ρ H a o):∃u,H a=some u:=by
 cases o with
 |lst l=>obtain⟨xs,h,_⟩:=h;exact⟨_,h⟩
 |dic ks l=>obtain⟨xs,h,_⟩:=h;exact⟨_,h⟩
 |ins c ns l=>obtain⟨C,dx,xs,_,h,_⟩:=h;exact⟨_,h⟩
theorem o5.mono(e:Ext ρ H ρ' H')(k:H' a=H a)(h:o5 mg ρ H a o):o5 mg ρ' H' a o:=by
 cases o with
 |lst l=>obtain⟨xs,h,c⟩:=h;exact⟨xs,k.trans h,c.mono e⟩
 |dic ks l=>obtain⟨xs,h,q,c⟩:=h;exact⟨xs,k.trans h,q,c.mono e⟩
 |ins c ns l=>obtain⟨C,dx,xs,m,h,q,c⟩:=h;exact⟨C,dx,xs,m,k.trans h,q,c.mono e⟩
structure J(mg:Str->Option Value)(ρ:Rh)(M:Mo)(H:Hp):Prop where
 len:ρ.st.length=M.length
 nd:ρ.st.Nodup
 obj:∀(n:Nat) a o,ρ.st[n]?=some a->M[n]?=some o->o5 mg ρ H a o
 vol:∀a,a∈ρ.vo->a∉ρ.st∧∃xs,H a=some (.lst xs)
theorem J.some(j:J mg ρ M H)(h:a∈ρ):∃u,H a=some u:=by
 rcases h with h | h
 ·obtain⟨n,hn⟩:=List.mem_iff_getElem?.mp h
  have lt:n<M.length:=by rw[←j.len];exact (List.getElem?_eq_some_iff.mp hn).1
  exact (j.obj n a M[n] hn (List.getElem?_eq_getElem lt)).some
 ·obtain⟨_,xs,e⟩:=j.vol a h
  exact⟨_,e⟩
theorem J.fresh(j:J mg ρ M H)(h:H p=none):p∉ρ:=fun z=>by
 obtain⟨u,e⟩:=j.some z
 rw[h] at e;cases e
theorem J.inj(j:J mg ρ M H){n m:Nat}(h:ρ.st[n]?=Option.some a)(k:ρ.st[m]?=Option.some a):n=m:=by
 obtain⟨h1,e1⟩:=List.getElem?_eq_some_iff.mp h
 obtain⟨h2,e2⟩:=List.getElem?_eq_some_iff.mp k
 have q:∀i k (hi:i<ρ.st.length) (hk:k<ρ.st.length),i<k->ρ.st[i]≠ρ.st[k]:=fun i k hi hk lt=>List.pairwise_iff_getElem.mp j.nd i k hi hk lt
 rcases Nat.lt_trichotomy n m with z | z | z
 ·exact absurd (e1.trans e2.symm) (q n m h1 h2 z)
 ·exact z
 ·exact absurd (e2.trans e1.symm) (q m n h2 h1 z)
theorem Ext.lay(h:H p=none):Ext ρ H ρ (upd H p o):=⟨⟨[],by simp⟩,rfl,fun a h n=>absurd h n,fun a o e _=>by rw[upd_ne (ne_of_none e h)];exact e⟩
theorem Ext.same(S:Same H H'):Ext ρ H ρ H':=⟨⟨[],by simp⟩,rfl,fun a h n=>absurd h n,fun a o e _=>S _ _ e⟩
theorem J.same(j:J mg ρ M H)(S:Same H H'):J mg ρ M H':=⟨j.len,j.nd,fun n a o h k=>by
 have c:=j.obj n a o h k
 obtain⟨u,e⟩:=c.some
 exact c.mono (Ext.same S) (by rw[e,S _ _ e]),fun a h=>let ⟨x,xs,e⟩:=j.vol a h;⟨x,xs,S _ _ e⟩⟩
theorem J.lay(j:J mg ρ M H)(o:HO)(h:H p=none):J mg ρ M (upd H p o):=j.same (same_new h o)
theorem Ext.put(h:H p=none):Ext ρ H (ρ.put p) (upd H p o):=⟨⟨[p],rfl⟩,rfl,fun a ha n=>by
 rcases List.mem_append.mp ha with z | z
 ·exact absurd z n
 ·rw[List.mem_singleton.mp z];exact h,fun a o e _=>by rw[upd_ne (ne_of_none e h)];exact e⟩
theorem J.put (j:J mg ρ M H) (h:H p=none) (c:o5 mg (ρ.put p) (upd H p o) p u):J mg (ρ.put p) (M++[u]) (upd H p o):=by
 have np:p∉ρ.st:=fun z=>j.fresh h (.inl z)
 refine⟨?_,?_,fun n a w h1 h2=>?_,fun a ha=>?_⟩
 ·show (ρ.st++[p]).length=_
  rw[List.length_append,List.length_append,j.len];rfl
 ·show (ρ.st++[p]).Nodup
  rw[List.nodup_append]
  exact⟨j.nd,by simp,fun x hx y hy e=>by rw[List.mem_singleton.mp hy] at e;exact np (e ▸ hx)⟩
 ·have h1:(ρ.st++[p])[n]?=Option.some a:=h1
  by_cases hn:n<ρ.st.length
  ·rw[List.getElem?_append_left hn] at h1
   rw[List.getElem?_append_left (by rw[←j.len];exact hn)] at h2
   have c:=j.obj n a w h1 h2
   exact c.mono (Ext.put h) (upd_ne fun (z:a=p)=>np (z ▸ List.mem_of_getElem? h1))
  ·have hl:n<(ρ.st++[p]).length:=(List.getElem?_eq_some_iff.mp h1).1
   rw[List.length_append] at hl
   have e:n=ρ.st.length:=by have:[p].length=1:=rfl;lia
   subst e
   rw[List.getElem?_append_right (Nat.le_refl _)] at h1
   rw[j.len,List.getElem?_append_right (Nat.le_refl _)] at h2
   simp at h1 h2
   subst h1 h2
   exact c
 ·obtain⟨x,xs,e⟩:=j.vol a ha
  have ne:a≠p:=ne_of_none e h
  refine⟨fun z=>?_,xs,by rw[upd_ne ne];exact e⟩
  rcases List.mem_append.mp z with z | z
  ·exact x z
  ·exact ne (List.mem_singleton.mp z)
theorem Ext.upd(h:p∈ρ.st):Ext ρ H ρ (L2.upd H p o):=⟨⟨[],by simp⟩,rfl,fun a h n=>absurd h n,fun a u e n=>by rw[upd_ne (fun (z:a=p)=>n (z ▸ h))];exact e⟩
theorem J.upd (j:J mg ρ M H) {n:Nat} (h:ρ.st[n]?=Option.some p) (c:o5 mg ρ (L2.upd H p o) p u):J mg ρ (M.set n u) (L2.upd H p o):=by
 refine⟨by rw[List.length_set];exact j.len,j.nd,fun m a w h1 h2=>?_,fun a ha=>?_⟩
 ·by_cases e:m=n
  ·subst e
   rw[h] at h1;cases h1
   have lt:m<M.length:=by rw[←j.len];exact (List.getElem?_eq_some_iff.mp h).1
   rw[List.getElem?_set_self lt] at h2
   cases h2
   exact c
  ·rw[List.getElem?_set_ne (fun z=>e z.symm)] at h2
   have ne:a≠p:=fun z=>by subst z;exact e (j.inj h1 h)
   exact (j.obj m a w h1 h2).mono (Ext.upd (List.mem_of_getElem? h)) (by rw[upd_ne ne])
 ·obtain⟨x,xs,e⟩:=j.vol a ha
  exact⟨x,xs,by rw[upd_ne (fun (z:a=p)=>x (z ▸ List.mem_of_getElem? h))];exact e⟩
theorem jQ(hp:p∈ρ.vo)(n:a∉ρ):L2.upd H p o a=H a:=upd_ne fun z=>n (by rw[z];exact .inr hp)
mutual
theorem Cv.hold (hp:p∈ρ.vo):∀ {v:V}{d:D},Cv mg ρ H v d->Cv mg ρ (L2.upd H p o) v d
 |_,_,.non=>.non
 |_,_,.bl b=>.bl b
 |_,_,.int i=>.int i
 |_,_,.str x=>.str x
 |_,_,.tup n h c=>.tup n ((jQ hp n).trans h) (Cvs.hold hp c)
 |_,_,.lst n h c=>.lst n ((jQ hp n).trans h) (Cvs.hold hp c)
 |_,_,.dic n h l c=>.dic n ((jQ hp n).trans h) l (Cvs.hold hp c)
 |_,_,.obj n m h l c=>.obj n m ((jQ hp n).trans h) l (Cvs.hold hp c)
 |_,_,.scr n h=>.scr n (by
   rcases h with h | ⟨o,h⟩
   ·exact .inl ((jQ hp n).trans h)
   ·exact .inr ⟨o,(jQ hp n).trans h⟩)
 |_,_,.ref h=>.ref h
 |_,_,.cls h=>.cls h
 |_,_,.ty t=>.ty t
 |_,_,.exn a=>.exn a
theorem Cvs.hold(hp:p∈ρ.vo):∀{vs:List V}{ds:List D},Cvs mg ρ H vs ds->Cvs mg ρ (L2.upd H p o) vs ds
 |_,_,.nil=>.nil
 |_,_,.cons h t=>.cons (Cv.hold hp h) (Cvs.hold hp t)
end
mutual
theorem Cv.less(hs:ρ1.st=ρ.st)(hv:∀a,a∈ρ1.vo->a∈ρ.vo):∀{v:V}{d:D},Cv mg ρ H v d->Cv mg ρ1 H v d
 |_,_,.non=>.non
 |_,_,.bl b=>.bl b
 |_,_,.int i=>.int i
 |_,_,.str x=>.str x
 |_,_,.tup n h c=>.tup (fun z=>n (z.elim (fun y=>.inl (hs ▸ y)) fun y=>.inr (hv _ y))) h (Cvs.less hs hv c)
 |_,_,.lst n h c=>.lst (fun z=>n (z.elim (fun y=>.inl (hs ▸ y)) fun y=>.inr (hv _ y))) h (Cvs.less hs hv c)
 |_,_,.dic n h l c=>.dic (fun z=>n (z.elim (fun y=>.inl (hs ▸ y)) fun y=>.inr (hv _ y))) h l (Cvs.less hs hv c)
 |_,_,.obj n m h l c=>.obj (fun z=>n (z.elim (fun y=>.inl (hs ▸ y)) fun y=>.inr (hv _ y))) m h l (Cvs.less hs hv c)
 |_,_,.scr n h=>.scr (fun z=>n (z.elim (fun y=>.inl (hs ▸ y)) fun y=>.inr (hv _ y))) h
 |_,_,.ref h=>.ref (by rw[hs];exact h)
 |_,_,.cls h=>.cls h
 |_,_,.ty t=>.ty t
 |_,_,.exn a=>.exn a
theorem Cvs.less(hs:ρ1.st=ρ.st)(hv:∀a,a∈ρ1.vo->a∈ρ.vo):∀{vs:List V}{ds:List D},Cvs mg ρ H vs ds->Cvs mg ρ1 H vs ds
 |_,_,.nil=>.nil
 |_,_,.cons h t=>.cons (Cv.less hs hv h) (Cvs.less hs hv t)
end
mutual
theorem Cv.more{p:Addr}(hp:H p=none):∀{v:V}{d:D},Cv mg ρ H v d->Cv mg (ρ.hold p) H v d
 |_,_,.non=>.non
 |_,_,.bl b=>.bl b
 |_,_,.int i=>.int i
 |_,_,.str x=>.str x
 |_,_,.tup n h c=>.tup (Rh.nhold n (ne_of_none h hp)) h (Cvs.more hp c)
 |_,_,.lst n h c=>.lst (Rh.nhold n (ne_of_none h hp)) h (Cvs.more hp c)
 |_,_,.dic n h l c=>.dic (Rh.nhold n (ne_of_none h hp)) h l (Cvs.more hp c)
 |_,_,.obj n m h l c=>.obj (Rh.nhold n (ne_of_none h hp)) m h l (Cvs.more hp c)
 |_,_,.scr n h=>.scr (Rh.nhold n (by obtain⟨o,q⟩:=Rd.some h;exact ne_of_none q hp)) h
 |_,_,.ref h=>.ref h
 |_,_,.cls h=>.cls h
 |_,_,.ty t=>.ty t
 |_,_,.exn a=>.exn a
theorem Cvs.more(hp:H p=none):∀{vs:List V}{ds:List D},Cvs mg ρ H vs ds->Cvs mg (ρ.hold p) H vs ds
 |_,_,.nil=>.nil
 |_,_,.cons h t=>.cons (Cv.more hp h) (Cvs.more hp t)
end
theorem o5.map(k:H1 a=H a)(f:∀vs ds,Cvs mg ρ H vs ds->Cvs mg ρ1 H1 vs ds)(h:o5 mg ρ H a o):o5 mg ρ1 H1 a o:=by
 cases o with
 |lst l=>obtain⟨xs,h,c⟩:=h;exact⟨xs,k.trans h,f _ _ c⟩
 |dic ks l=>obtain⟨xs,h,q,c⟩:=h;exact⟨xs,k.trans h,q,f _ _ c⟩
 |ins c ns l=>obtain⟨C,dx,xs,m,h,q,c⟩:=h;exact⟨C,dx,xs,m,k.trans h,q,f _ _ c⟩
theorem J.begin (j:J mg ρ M H) (hp:H p=none):J mg (ρ.hold p) M (L2.upd H p (.lst [])):=by
 have np:p∉ρ.st:=fun z=>j.fresh hp (.inl z)
 refine⟨j.len,j.nd,fun n a o h1 h2=>?_,fun a ha=>?_⟩
 ·exact (j.obj n a o h1 h2).map (upd_ne fun (z:a=p)=>np (z ▸ List.mem_of_getElem? h1)) fun vs ds c=>(c.more hp).hold (.head _)
 ·rcases List.mem_cons.mp ha with rfl | ha
  ·exact⟨np,[],upd_same⟩
  ·obtain⟨x,xs,e⟩:=j.vol a ha
   exact⟨x,xs,by rw[upd_ne (ne_of_none e hp)];exact e⟩
theorem J.grow (j:J mg ρ M H) (hp:p∈ρ.vo):J mg ρ M (L2.upd H p (.lst ys)):=by
 refine⟨j.len,j.nd,fun n a o h1 h2=>?_,fun a ha=>?_⟩
 ·exact (j.obj n a o h1 h2).map (upd_ne fun (z:a=p)=>(j.vol p hp).1 (z ▸ List.mem_of_getElem? h1)) fun vs ds c=>c.hold hp
 ·by_cases z:a=p
  ·subst z;exact⟨(j.vol a ha).1,ys,upd_same⟩
  ·obtain⟨x,xs,e⟩:=j.vol a ha
   exact⟨x,xs,by rw[upd_ne z];exact e⟩
theorem J.done(j:J mg ρ1 M H)(hv:ρ1.vo=p::ρ.vo):J mg ⟨ρ1.st,ρ.vo⟩ M H:=by
 refine⟨j.len,j.nd,fun n a o h1 h2=>?_,fun a ha=>?_⟩
 ·exact o5.map (ρ:=ρ1) rfl (fun vs ds c=>Cvs.less (ρ:=ρ1) (ρ1:=⟨ρ1.st,ρ.vo⟩) rfl (fun a ha=>by rw[hv];exact .tail _ ha) c) (j.obj n a o h1 h2)
 ·obtain⟨x,y⟩:=j.vol a (by rw[hv];exact .tail _ ha)
  exact⟨x,y⟩
end
structure Kp(ρ:Rh)(H:Hp)(ρ':Rh)(H':Hp):Prop where
 pre:∃τ,ρ'.st=ρ.st++τ
 keep:∀a o,H a=some o->a∉ρ->a∉ρ'∧H' a=some o
theorem Ext.kp(e:Ext ρ H ρ' H'):Kp ρ H ρ' H':=⟨e.pre,fun a o h n=>⟨e.out h n,e.keeps h n⟩⟩
theorem Kp.trans(a:Kp ρ H ρ1 H1)(b:Kp ρ1 H1 ρ2 H2):Kp ρ H ρ2 H2:=by
 refine⟨?_,fun c o h n=>let ⟨x,y⟩:=a.keep c o h n;b.keep c o y x⟩
 obtain⟨τ,h1⟩:=a.pre
 obtain⟨υ,h2⟩:=b.pre
 exact⟨τ++υ,by rw[h2,h1,List.append_assoc]⟩
theorem Kp.at(e:Kp ρ H ρ' H'){n:Nat}(h:ρ.st[n]?=some a):ρ'.st[n]?=some a:=by
 obtain⟨τ,h1⟩:=e.pre
 rw[h1,List.getElem?_append_left (List.getElem?_eq_some_iff.mp h).1];exact h
section
variable{mg:Str->Option Value}{ρ ρ':Rh}{H H':Hp}
mutual
theorem Cv.kp (e:Kp ρ H ρ' H'):∀ {v:V}{d:D},Cv mg ρ H v d->Cv mg ρ' H' v d
 |_,_,.non=>.non
 |_,_,.bl b=>.bl b
 |_,_,.int i=>.int i
 |_,_,.str x=>.str x
 |_,_,.tup n h c=>.tup (e.keep _ _ h n).1 (e.keep _ _ h n).2 (Cvs.kp e c)
 |_,_,.lst n h c=>.lst (e.keep _ _ h n).1 (e.keep _ _ h n).2 (Cvs.kp e c)
 |_,_,.dic n h l c=>.dic (e.keep _ _ h n).1 (e.keep _ _ h n).2 l (Cvs.kp e c)
 |_,_,.obj n m h l c=>.obj (e.keep _ _ h n).1 m (e.keep _ _ h n).2 l (Cvs.kp e c)
 |_,_,.scr n h=>by
   rcases h with h | ⟨o,h⟩
   ·exact .scr (e.keep _ _ h n).1 (.inl (e.keep _ _ h n).2)
   ·exact .scr (e.keep _ _ h n).1 (.inr ⟨o,(e.keep _ _ h n).2⟩)
 |_,_,.ref h=>.ref (e.at h)
 |_,_,.cls h=>.cls h
 |_,_,.ty t=>.ty t
 |_,_,.exn a=>.exn a
theorem Cvs.kp(e:Kp ρ H ρ' H'):∀{vs:List V}{ds:List D},Cvs mg ρ H vs ds->Cvs mg ρ' H' vs ds
 |_,_,.nil=>.nil
 |_,_,.cons h t=>.cons (Cv.kp e h) (Cvs.kp e t)
end
end
def Af(mg:Str->Option Value)(ρ:Rh)(H:Hp){α β:Type}(rel:Rh->Hp->β->α->Prop)(Q:β->Hp->Prop)(E:XK):R α×Mo->Prop
 |(.ok a,M')=>∀ρ' H' b,Ext ρ H ρ' H'->J mg ρ' M' H'->rel ρ' H' b a->Q b H'
 |(.exc c,M')=>∀ρ' H' C,Ext ρ H ρ' H'->J mg ρ' M' H'->mg c=some (.ref C)->E (.ref C) none H'
def Go(mg:Str->Option Value)(E:XK){α β:Type}(rel:Rh->Hp->β->α->Prop)(Q:β->Hp->Prop)(ρ:Rh)(H:Hp)(m:DM α)(M:Mo):Prop:=∃r,m M=some r∧Af mg ρ H rel Q E r
section
variable{mg:Str->Option Value}{ρ ρ':Rh}{H H':Hp}{E:XK}{α β γ δ':Type}{rel:Rh->Hp->β->α->Prop}{rel':Rh->Hp->δ'->γ->Prop}{Q:δ'->Hp->Prop}{Q':β->Hp->Prop}
theorem Af.mono(e:Ext ρ H ρ' H')(h:Af mg ρ H rel Q' E r):Af mg ρ' H' rel Q' E r:=by
 obtain⟨r,M'⟩:=r
 cases r with
 |ok a=>exact fun ρ2 H2 b e2 j c=>h ρ2 H2 b (e.trans e2) j c
 |exc c=>exact fun ρ2 H2 C e2 j m=>h ρ2 H2 C (e.trans e2) j m
theorem Go.bind(g:Go mg E rel' Q ρ H (m>>=k) M)
  (f:∀ρ1 H1 M1 b a,Ext ρ H ρ1 H1->J mg ρ1 M1 H1->rel ρ1 H1 b a->Go mg E rel' Q ρ1 H1 (k a) M1->Q' b H1):Go mg E rel Q' ρ H m M:=by
 obtain⟨r,e,p⟩:=g
 have e:DM.bind m k M=some r:=e
 unfold DM.bind at e
 split at e
 ·cases e
 ·rename_i c M' em
  cases e
  exact⟨_,em,p⟩
 ·rename_i a M' em
  exact⟨_,em,fun ρ1 H1 b x j c=>f ρ1 H1 M' b a x j c ⟨r,e,p.mono x⟩⟩
theorem Go.rd(g:Go mg E rel Q' ρ H (rd f) M):∃a,f M=some a∧∀ρ' H' b,Ext ρ H ρ' H'->J mg ρ' M H'->rel ρ' H' b a->Q' b H':=by
 obtain⟨r,e,p⟩:=g
 obtain⟨a,e1,rfl⟩:=Option.map_eq_some_iff.mp e
 exact⟨a,e1,p⟩
theorem Go.opt(g:Go mg E rel Q' ρ H (opt o) M):∃a,o=some a∧∀ρ' H' b,Ext ρ H ρ' H'->J mg ρ' M H'->rel ρ' H' b a->Q' b H':=by
 obtain⟨r,e,p⟩:=g
 obtain⟨a,e1,rfl⟩:=Option.map_eq_some_iff.mp e
 exact⟨a,e1,p⟩
theorem Go.pure(g:Go mg E rel Q' ρ H (pure a) M):∀ρ' H' b,Ext ρ H ρ' H'->J mg ρ' M H'->rel ρ' H' b a->Q' b H':=by
 obtain⟨r,e,p⟩:=g
 have e:some (R.ok a,M)=some r:=e
 cases e
 exact p
end
structure Ev(mg:Str->Option Value)(ρ:Rh)(H:Hp)(σ:St)(δ:ao):Prop where
 len:σ.length=δ.length
 val:∀(i:Nat) d,δ[i]?=some (some d)->∃v,σ[i]?=some (some v)∧Cv mg ρ H v d
theorem Ev.mono(e:Ext ρ H ρ' H')(h:Ev mg ρ H σ δ):Ev mg ρ' H' σ δ:=
 ⟨h.len,fun i d q=>let ⟨v,a,b⟩:=h.val i d q;⟨v,a,b.mono e⟩⟩
theorem Ev.kp(e:Kp ρ H ρ' H')(h:Ev mg ρ H σ δ):Ev mg ρ' H' σ δ:=
 ⟨h.len,fun i d q=>let ⟨v,a,b⟩:=h.val i d q;⟨v,a,b.kp e⟩⟩
theorem Ev.set(h:Ev mg ρ H σ δ)(c:Cv mg ρ H v d):Ev mg ρ H (σ.set i (some v)) (δ.set i (some d)):=by
 refine⟨by rw[List.length_set,List.length_set,h.len],fun j x q=>?_⟩
 by_cases e:j=i
 ·subst e
  have hj:j<(δ.set j (some d)).length:=(List.getElem?_eq_some_iff.mp q).1
  rw[List.length_set] at hj
  rw[List.getElem?_set_self hj] at q
  cases q
  exact⟨v,List.getElem?_set_self (by rw[h.len];exact hj),c⟩
 ·rw[List.getElem?_set_ne (fun z=>e z.symm)] at q ⊢
  exact h.val j x q
def tD(mg:Str->Option Value)(E:XK){α β:Type}(rel:Rh->Hp->β->α->Prop)(f:ao->DM α):St->Hp->(β->Hp->Prop)->Prop:=fun σ H Q=>
 ∃ρ δ M,Ev mg ρ H σ δ∧J mg ρ M H∧Go mg E rel Q ρ H (f δ) M
def Bv(_:Rh)(_:Hp)(b a:Bool):Prop:=b=a
structure DE(X:Cx)(E:XK)(e:Expr)(f:ao->DM D):Prop where
 h:PE X e (tD X.mg E (Cv X.mg) f)
structure DA(X:Cx)(E:XK)(es:List Expr)(f:ao->DM (List D)):Prop where
 h:QA X es (tD X.mg E (Cvs X.mg) f)
structure DT(X:Cx)(E:XK)(e:Expr)(f:ao->DM Bool):Prop where
 h:PT X e (tD X.mg E Bv f)
theorem PE.mono(h:PE X e t)(f:∀σ H Q,t' σ H Q->t σ H Q):PE X e t':=fun pins s σ H Q I q=>h pins s σ H Q I (f σ H Q q)
theorem PT.mono(h:PT X e t)(f:∀σ H Q,t' σ H Q->t σ H Q):PT X e t':=fun pins s σ H Q I q=>h pins s σ H Q I (f σ H Q q)
theorem PA.mono(h:PA X e t)(f:∀σ H Q,t' σ H Q->t σ H Q):PA X e t':=fun p pins s σ H Q I q=>h p pins s σ H Q I (f σ H Q q)
mutual
def toPy:D->Option PyData
 |.non=>some .none
 |.bl b=>some (.bool b)
 |.int i=>some (.int i)
 |.str x=>some (.str x)
 |.tup l=>(gb l).map .tuple
 |.lst l=>(gb l).map .list
 |_=>none
def gb:List D->Option (List PyData)
 |[]=>some []
 |d::l=>match toPy d,gb l with
   |some p,some ps=>some (p::ps)
   |_,_=>none
end
mutual
def bZ:D->Option PyData
 |.non=>some .none
 |.bl b=>some (.bool b)
 |.int i=>some (.int i)
 |.str x=>some (.str x)
 |.tup l=>(fH l).map .tuple
 |.lst l=>(fH l).map .list
 |.dic [] []=>some (.dict [])
 |.dic [.inl i] [.int j]=>some (.dict [(.int i,.int j)])
 |_=>none
def fH:List D->Option (List PyData)
 |[]=>some []
 |d::l=>match bZ d,fH l with
   |some p,some ps=>some (p::ps)
   |_,_=>none
end
section
variable{mg:Str->Option Value}{ρ:Rh}{H:Hp}
mutual
theorem Cv.repF:∀ {v:V}{d:D}{p:PyData},Cv mg ρ H v d->toPy d=some p->RepF H true v p
 |_,_,_,.non,e=>by simp only[toPy,Option.some.injEq] at e;subst e;exact .non
 |_,_,_,.bl b,e=>by simp only[toPy,Option.some.injEq] at e;subst e;exact .bl b
 |_,_,_,.int i,e=>by simp only[toPy,Option.some.injEq] at e;subst e;exact .int i
 |_,_,_,.str x,e=>by simp only[toPy,Option.some.injEq] at e;subst e;exact .str x
 |_,_,_,.tup _ h c,e=>by
   simp only[toPy] at e
   obtain⟨ps,e1,rfl⟩:=Option.map_eq_some_iff.mp e
   exact .tup h (Cvs.repF c e1)
 |_,_,_,.lst _ h c,e=>by
   simp only[toPy] at e
   obtain⟨ps,e1,rfl⟩:=Option.map_eq_some_iff.mp e
   exact .lst h (Cvs.repF c e1)
 |_,_,_,.dic ..,e=>by simp[toPy] at e
 |_,_,_,.obj ..,e=>by simp[toPy] at e
 |_,_,_,.scr ..,e=>by simp[toPy] at e
 |_,_,_,.ref ..,e=>by simp[toPy] at e
 |_,_,_,.cls ..,e=>by simp[toPy] at e
 |_,_,_,.ty ..,e=>by simp[toPy] at e
 |_,_,_,.exn ..,e=>by simp[toPy] at e
theorem Cvs.repF:∀ {vs:List V}{ds:List D}{ps:List PyData},Cvs mg ρ H vs ds->gb ds=some ps->RepsF H true vs ps
 |_,_,_,.nil,e=>by simp only[gb,Option.some.injEq] at e;subst e;exact .nil
 | _,_,_,.cons (d:=d) (ds:=ds) h t,e=>by
   simp only[gb] at e
   split at e
   ·rename_i p ps h1 h2
    cases e
    exact .cons (Cv.repF h h1) (Cvs.repF t h2)
   ·cases e
end
mutual
theorem Cv.repD:∀ {v:V}{d:D}{p:PyData},Cv mg ρ H v d->bZ d=some p->RepF H false v p
 |_,_,_,.non,e=>by simp only[bZ,Option.some.injEq] at e;subst e;exact .non
 |_,_,_,.bl b,e=>by simp only[bZ,Option.some.injEq] at e;subst e;exact .bl b
 |_,_,_,.int i,e=>by simp only[bZ,Option.some.injEq] at e;subst e;exact .int i
 |_,_,_,.str x,e=>by simp only[bZ,Option.some.injEq] at e;subst e;exact .str x
 |_,_,_,.tup _ h c,e=>by
   simp only[bZ] at e
   obtain⟨ps,e1,rfl⟩:=Option.map_eq_some_iff.mp e
   exact .tup h (Cvs.repD c e1)
 |_,_,_,.lst _ h c,e=>by
   simp only[bZ] at e
   obtain⟨ps,e1,rfl⟩:=Option.map_eq_some_iff.mp e
   exact .lst h (Cvs.repD c e1)
 | _,_,_,.dic (ks:=ks) (ds:=ds) _ h l c,e=>by
   unfold bZ at e
   split at e<;>first | cases e;done | skip
   ·cases ‹D.dic ks ds=_›
   ·cases ‹D.dic ks ds=_›
   ·cases ‹D.dic ks ds=_›
   ·cases ‹D.dic ks ds=_›
   ·cases ‹D.dic ks ds=_›
   ·cases ‹D.dic ks ds=_›
   ·rename_i q
    cases q
    cases c
    cases e
    exact .d0 h
   ·rename_i i j q
    cases q
    cases c with
    |cons c1 c2=>
      cases c2
      cases c1
      cases e
      exact .d1 h
 |_,_,_,.obj ..,e=>by simp[bZ] at e
 |_,_,_,.scr ..,e=>by simp[bZ] at e
 |_,_,_,.ref ..,e=>by simp[bZ] at e
 |_,_,_,.cls ..,e=>by simp[bZ] at e
 |_,_,_,.ty ..,e=>by simp[bZ] at e
 |_,_,_,.exn ..,e=>by simp[bZ] at e
theorem Cvs.repD:∀ {vs:List V}{ds:List D}{ps:List PyData},Cvs mg ρ H vs ds->fH ds=some ps->RepsF H false vs ps
 |_,_,_,.nil,e=>by simp only[fH,Option.some.injEq] at e;subst e;exact .nil
 | _,_,_,.cons (d:=d) (ds:=ds) h t,e=>by
   simp only[fH] at e
   split at e
   ·rename_i p ps h1 h2
    cases e
    exact .cons (Cv.repD h h1) (Cvs.repD t h2)
   ·cases e
end
end
section
variable{X:Cx}{E:XK}{a b c:Expr}{fa fb fc:ao->DM D}{pos:Pos}
def bY(i:Nat)(δ:ao):DM D:=opt ((δ[i]?).join)
theorem aa(i:Nat){x:Str}(hN:X.N[i]?=some x:=by rfl)(hv:Vis X.env.scope x:=by first | exact Or.inl rfl | exact Or.inr (Or.inl rfl) | exact Or.inr (Or.inr rfl))(hd:(x==("__debug__":Str))=false:=by decide)
  (hcd:(x==("__classdict__":Str))=false:=by decide):DE X E (.Name x pos) (bY i):=⟨PE.mono (pe_var (i:=i) hN hv hd hcd) fun σ H Q h=>by
 obtain⟨ρ,δ,M,ev,j,g⟩:=h
 obtain⟨d,e,q⟩:=g.opt
 have e':δ[i]?=some (some d):=by
  cases z:δ[i]? with
  |none=>rw[z] at e;cases e
  |some o=>rw[z] at e;exact congrArg some e
 obtain⟨v,h1,h2⟩:=ev.val i d e'
 exact⟨v,h1,q ρ H v .refl j h2⟩⟩
theorem gf{e:Expr}{v:V}{d:D}(h:PE X e (tC v))(hc:∀ρ H,Cv X.mg ρ H v d):DE X E e (fun _=>pure d):=⟨PE.mono h fun σ H Q h=>by
 obtain⟨ρ,δ,M,ev,j,g⟩:=h
 exact g.pure ρ H v .refl j (hc _ _)⟩
theorem aA{i j}:DE X E (.Constant (.int i) j pos) (fun _=>pure (.int i)):=gf pe_int fun _ _=>.int i
theorem bL{i j}:DE X E (.Constant (.bool i) j pos) (fun _=>pure (.bl i)):=gf pe_bl fun _ _=>.bl i
theorem pR{j}:DE X E (.Constant .none j pos) (fun _=>pure .non):=gf pe_non fun _ _=>.non
theorem eE{x j}:DE X E (.Constant (.str x) j pos) (fun _=>pure (.str x)):=gf pe_str fun _ _=>.str x
theorem G9{x:Str}{i:Int}{t:Tok}(h:X.mg x=some (.int i t))(hg:Gl X x:=by rfl)(hd:(x==("__debug__":Str))=false:=by decide):DE X E (.Name x pos) (fun _=>pure (.int i)):=gf (Ly h hg hd) fun _ _=>.int i
theorem Cz{x:Str}{C:Addr}(h:X.mg x=some (.ref C))(hg:Gl X x:=by rfl)(hd:(x==("__debug__":Str))=false:=by decide):DE X E (.Name x pos) (fun _=>pure (.cls x)):=gf (J9 h hg hd) fun _ _=>.cls h
theorem eX{x:Str}{T:String}(hm:X.mg x=none)(hg:Gl X x:=by rfl)(hv:bootBuiltins x=some (.type T):=by decide +kernel)(hn:x≠"__name__":=by decide)(hdb:(x==("__debug__":Str))=false:=by decide):DE X E (.Name x pos) (fun _=>pure (.ty T)):=
 gf (LK hm hg hv hn hdb) fun _ _=>.ty T
def rD(mg:Str->Option Value)(E:XK)(g:D->D->DM D):R2:=fun x y H Q=>∃ρ M dx dy,J mg ρ M H∧Cv mg ρ H x dx∧Cv mg ρ H y dy∧Go mg E (Cv mg) Q ρ H (g dx dy) M
def bW(X:Cx)(E:XK)(f:Value->Value->Sem Value)(g:D->D->DM D):Prop:=OpR X f (rD X.mg E g)
theorem zH{g:D->D->DM D}{r:R2}(hr:∀x y H Q,rD X.mg E g x y H Q->r x y H Q){σ:L2.St}{H:Hp}{Q:VK}(h:tD X.mg E (Cv X.mg) (fun δ=>fa δ>>=fun x=>fb δ>>=fun y=>g x y) σ H Q) :
  tOp r (tD X.mg E (Cv X.mg) fa) (tD X.mg E (Cv X.mg) fb) σ H Q:=by
 obtain⟨ρ,δ,M,ev,j,g1⟩:=h
 exact⟨ρ,δ,M,ev,j,g1.bind fun ρ1 H1 M1 x dx e1 j1 c1 g2=>⟨ρ1,δ,M1,ev.mono e1,j1,g2.bind fun ρ2 H2 M2 y dy e2 j2 c2 g3=>hr _ _ _ _ ⟨ρ2,M2,dx,dy,j2,c1.mono e2,c2,g3⟩⟩⟩
theorem aF{op:Operator}{g:D->D->DM D}(ho:bW X E (binaryOp op) g)(ha:DE X E a fa)(hb:DE X E b fb):DE X E (.BinOp a op b pos) (fun δ=>fa δ>>=fun x=>fb δ>>=fun y=>g x y):=
 ⟨PE.mono (pe_op ho ha.h hb.h) fun σ H Q h=>zH (fun _ _ _ _ z=>z) h⟩
theorem gK{op:CmpOp}{g:D->D->DM D}(ho:bW X E (compareOp op) g)(ha:DE X E a fa)(hb:DE X E b fb)(hm:behindInMarks op b=false:=by first | exact nomark _ | rfl):DE X E (.Compare a [op] [b] pos) (fun δ=>fa δ>>=fun x=>fb δ>>=fun y=>g x y):=
 ⟨PE.mono (pe_cmpR ho ha.h hb.h hm) fun σ H Q h=>zH (fun _ _ _ _ z=>z) h⟩
def fW:D->DM Bool
 |.bl b=>pure b
 |_=>stuck
theorem Go.fW{mg:Str->Option Value}{ρ:Rh}{H:Hp}{d:D}{M:Mo}{Q:Bool->Hp->Prop}(g:Go mg E Bv Q ρ H (fW d) M):∃k,d=.bl k∧∀ρ' H',Ext ρ H ρ' H'->J mg ρ' M H'->Q k H':=by
 cases d with
 |bl k=>exact⟨k,rfl,fun ρ' H' e j=>(show Go mg E Bv Q ρ H (Pure.pure k) M from g).pure ρ' H' k e j rfl⟩
 |_=>obtain⟨r,e,_⟩:=g;cases e
theorem dt_of{e:Expr}{f:ao->DM D}{t:TE}(h:PT X e (tTest t))(ht:∀σ H Q,tD X.mg E (Cv X.mg) f σ H Q->t σ H Q):DT X E e (fun δ=>f δ>>=fW):=⟨PT.mono h fun σ H Q h=>by
 obtain⟨ρ,δ,M,ev,j,g1⟩:=h
 refine ht _ _ _ ⟨ρ,δ,M,ev,j,g1.bind fun ρ1 H1 M1 x dx e1 j1 c1 g2=>?_⟩
 obtain⟨k,rfl,q⟩:=Go.fW g2
 cases c1
 exact⟨k,rfl,q ρ1 H1 .refl j1⟩⟩
theorem bz{op:CmpOp}{g:D->D->DM D}(ho:bW X E (compareOp op) g)(ha:DE X E a fa)(hb:DE X E b fb)(hm:behindInMarks op b=false:=by first | exact nomark _ | rfl):DT X E (.Compare a [op] [b] pos) (fun δ=>(fa δ>>=fun x=>fb δ>>=fun y=>g x y)>>=fW):=
 dt_of (pt_cmpR ho ha.h hb.h hm) fun σ H Q h=>zH (fun _ _ _ _ z=>z) h
theorem MJ {g g':D->D->DM D}{σ:L2.St}{H:Hp}{Q:VK} (h:tD X.mg E (Cv X.mg) (fun δ=>fa δ >>= fun x=>fb δ >>= fun y=>g x y >>= fun z=>fW z >>= fun k=>if k then fc δ >>= fun w=>g' y w else pure (.bl false)) σ H Q) :
  tChain (rD X.mg E g) (rD X.mg E g') (tD X.mg E (Cv X.mg) fa) (tD X.mg E (Cv X.mg) fb) (tD X.mg E (Cv X.mg) fc) σ H Q:=by
 obtain⟨ρ,δ,M,ev,j,g1⟩:=h
 refine⟨ρ,δ,M,ev,j,g1.bind fun ρ1 H1 M1 x dx e1 j1 c1 g2=>⟨ρ1,δ,M1,ev.mono e1,j1,g2.bind fun ρ2 H2 M2 y dy e2 j2 c2 g3=>⟨ρ2,M2,dx,dy,j2,c1.mono e2,c2,g3.bind fun ρ3 H3 M3 z dz e3 j3 c3 g4=>?_⟩⟩⟩
 have g5:=g4.bind (rel:=Bv) (Q':=fun k H4=>dz=.bl k∧∃ρ4 M4,Ext ρ3 H3 ρ4 H4∧J X.mg ρ4 M4 H4∧Go X.mg E (Cv X.mg) Q ρ4 H4 (if k then fc δ>>=fun w=>g' dy w else pure (.bl false)) M4)
 have key:∃k,dz=.bl k∧Go X.mg E (Cv X.mg) Q ρ3 H3 (if k then fc δ>>=fun w=>g' dy w else pure (.bl false)) M3:=by
  cases dz with
  |bl k=>exact⟨k,rfl,g4⟩
  |_=>obtain⟨r,e,_⟩:=g4;cases e
 obtain⟨k,rfl,g6⟩:=key
 cases c3
 refine⟨k,rfl,?_⟩
 cases k with
 |false=>exact iteF (g6.pure ρ3 H3 _ .refl j3 (.bl false))
 |true=>
   have g6:Go X.mg E (Cv X.mg) Q ρ3 H3 (fc δ>>=fun w=>g' dy w) M3:=g6
   exact iteT ⟨ρ3,δ,M3,((ev.mono e1).mono e2).mono e3,j3,g6.bind fun ρ4 H4 M4 w dw e4 j4 c4 g7=>⟨ρ4,M4,dy,dw,j4,(c2.mono e3).mono e4,c4,g7⟩⟩
theorem xm{op op':CmpOp}{g g':D->D->DM D}(ho:bW X E (compareOp op) g)(ho':bW X E (compareOp op') g')(ha:DE X E a fa)(hb:DE X E b fb)(hc:DE X E c fc)(hm:lastMarks [op,op'] [b,c]=false:=by with_unfolding_all rfl) :
  DE X E (.Compare a [op,op'] [b,c] pos) (fun δ=>fa δ>>=fun x=>fb δ>>=fun y=>g x y>>=fun z=>fW z>>=fun k=>if k then fc δ>>=fun w=>g' y w else pure (.bl false)):=
 ⟨PE.mono (pe_chain ho ho' ha.h hb.h hc.h hm) fun σ H Q h=>MJ h⟩
theorem FN{op op':CmpOp}{g g':D->D->DM D}(ho:bW X E (compareOp op) g)(ho':bW X E (compareOp op') g')(ha:DE X E a fa)(hb:DE X E b fb)(hc:DE X E c fc)(hm:lastMarks [op,op'] [b,c]=false:=by with_unfolding_all rfl) :
  DT X E (.Compare a [op,op'] [b,c] pos) (fun δ=>(fa δ>>=fun x=>fb δ>>=fun y=>g x y>>=fun z=>fW z>>=fun k=>if k then fc δ>>=fun w=>g' y w else pure (.bl false))>>=fW):=
 dt_of (pt_chain ho ho' ha.h hb.h hc.h hm) fun σ H Q h=>MJ h
def s8:D->Mo->Option Bool
 |.non,_=>some false
 |.bl b,_=>some b
 |.int i,_=>some (i != 0)
 |.str y,_=>if y.length≤sizeLine then some ((y.length:Int) != 0) else none
 |.tup l,_=>some (!l.isEmpty)
 |.lst l,_=>some (!l.isEmpty)
 |.scr l,_=>some (!l.isEmpty)
 |.dic ks _,_=>some (!ks.isEmpty)
 |.ref n,M=>match M[n]? with
   |some (.lst l)=>some (!l.isEmpty)
   |some (.dic ks _)=>some (!ks.isEmpty)
   |_=>none
 |_,_=>none
theorem wy {α β:Type}{ks:List α}{xs:List β} (h:ks.length=xs.length):(ks.zip xs).isEmpty=ks.isEmpty:=by
 cases ks with
 |nil=>simp
 |cons k ks=>cases xs with
   |nil=>simp at h
   |cons x xs=>rfl
theorem Cvs.empty{mg:Str->Option Value}{ρ:Rh}{H:Hp}{vs:List V}{ds:List D}(c:Cvs mg ρ H vs ds):vs.isEmpty=ds.isEmpty:=by cases c<;>rfl
theorem K8 {K:PySem.W.Frag}{mg:Str->Option Value}{ρ:Rh}{H:Hp}{M:Mo}{x:V}{d:D}{k:Bool} (j:J mg ρ M H) (h:Cv mg ρ H x d) (e:s8 d M=some k):TruV K x H k:=by
 cases h with
 |non=>cases e;rfl
 |bl b=>cases e;rfl
 |int i=>cases e;rfl
 |str y=>
   unfold s8 at e
   dsimp only at e
   split at e
   ·cases e;exact⟨‹_›,rfl⟩
   ·cases e
 |tup n h c=>cases e;exact .inr (.inl ⟨_,SqT.of h,by rw[c.empty]⟩)
 |lst n h c=>cases e;exact .inl ⟨_,SqL.of h,by rw[c.empty]⟩
 |scr n h=>cases e;exact .inl ⟨_,.inl h,by simp⟩
 |dic n h l c=>cases e;exact .inr (.inr ⟨_,h,by rw[wy l]⟩)
 | ref q=>
   rename_i n a
   unfold s8 at e
   dsimp only at e
   split at e
   ·rename_i l hl
    cases e
    obtain⟨xs,h,c⟩:=j.obj n a _ q hl
    exact .inl ⟨_,SqL.of h,by rw[c.empty]⟩
   ·rename_i ks l hl
    cases e
    obtain⟨xs,h,z,c⟩:=j.obj n a _ q hl
    exact .inr (.inr ⟨_,h,by rw[wy z]⟩)
   ·cases e
 |obj=>cases e
 |cls=>cases e
 |ty=>cases e
 |exn=>cases e
theorem bw(ha:DE X E a fa)(he:∀whole,isTrue a X.env whole=(do let v ←whole;standAt a.pos;holding [v] (truthy v))):DT X E a (fun δ=>fa δ>>=fun x=>rd (s8 x)):=⟨PT.mono (pt_truth ha.h he) fun σ H Q h=>by
 obtain⟨ρ,δ,M,ev,j,g1⟩:=h
 refine⟨ρ,δ,M,ev,j,g1.bind fun ρ1 H1 M1 x dx e1 j1 c1 g2=>?_⟩
 obtain⟨k,e,q⟩:=g2.rd
 exact⟨k,K8 j1 c1 e,q ρ1 H1 k .refl j1 rfl⟩⟩
variable{ta tb:ao->DM Bool}
theorem bQ(ha:DT X E a ta):DT X E (.UnaryOp .Not a pos) (fun δ=>ta δ>>=fun k=>pure (!k)):=⟨PT.mono (pt_not ha.h) fun σ H Q h=>by
 obtain⟨ρ,δ,M,ev,j,g1⟩:=h
 refine⟨ρ,δ,M,ev,j,g1.bind fun ρ1 H1 M1 x dx e1 j1 c1 g2=>?_⟩
 have c1:x=dx:=c1
 subst c1
 exact g2.pure ρ1 H1 _ .refl j1 rfl⟩
structure DW(X:Cx)(E:XK)(e:Expr)(f:ao->DM Bool):Prop where
 h:PW X e (tD X.mg E Bv f)
theorem PW.mono{e:Expr}{t t':TT}(h:PW X e t)(f:∀σ H Q,t' σ H Q->t σ H Q):PW X e t':=fun w pins s σ H Q I q=>h w pins s σ H Q I (f σ H Q q)
theorem DW.dt{e:Expr}(h:DW X E e ta):DT X E e ta:=⟨PW.pt h.h⟩
theorem HB(ha:DT X E a ta):DW X E (.BoolOp .And [a] pos) ta:=⟨pw_and1 ha.h⟩
theorem eF(ha:DT X E a ta):DW X E (.BoolOp .Or [a] pos) ta:=⟨pw_or1 ha.h⟩
variable{rest:List Expr}
theorem Jj(ha:DT X E a ta)(hb:DW X E (.BoolOp .And (b::rest) pos) tb):DW X E (.BoolOp .And (a::b::rest) pos) (fun δ=>ta δ>>=fun k=>if k then tb δ else pure false):=⟨PW.mono (pw_and ha.h hb.h) fun σ H Q h=>by
 obtain⟨ρ,δ,M,ev,j,g1⟩:=h
 refine⟨ρ,δ,M,ev,j,g1.bind fun ρ1 H1 M1 x dx e1 j1 c1 g2=>?_⟩
 have c1:x=dx:=c1
 subst c1
 cases x with
 |true=>exact iteT ⟨ρ1,δ,M1,ev.mono e1,j1,g2⟩
 |false=>exact iteF (Go.pure (a:=false) g2 ρ1 H1 _ .refl j1 rfl)⟩
theorem fK(ha:DT X E a ta)(hb:DW X E (.BoolOp .Or (b::rest) pos) tb):DW X E (.BoolOp .Or (a::b::rest) pos) (fun δ=>ta δ>>=fun k=>if k then pure true else tb δ):=⟨PW.mono (pw_or ha.h hb.h) fun σ H Q h=>by
 obtain⟨ρ,δ,M,ev,j,g1⟩:=h
 refine⟨ρ,δ,M,ev,j,g1.bind fun ρ1 H1 M1 x dx e1 j1 c1 g2=>?_⟩
 have c1:x=dx:=c1
 subst c1
 cases x with
 |false=>exact iteF ⟨ρ1,δ,M1,ev.mono e1,j1,g2⟩
 |true=>exact iteT (Go.pure (a:=true) g2 ρ1 H1 _ .refl j1 rfl)⟩
theorem iZ{op:BoolOp}(ha:DE X E a fa):DE X E (.BoolOp op [a] pos) fa:=⟨pe_one ha.h⟩
theorem Go.isB{mg:Str->Option Value}{ρ:Rh}{H:Hp}{α β:Type}{rel:Rh->Hp->β->α->Prop}{Q:β->Hp->Prop}{d:D}{M:Mo}{f:Bool->DM α}(g:Go mg E rel Q ρ H (L3.fW d>>=f) M):∃k,d=.bl k∧Go mg E rel Q ρ H (f k) M:=by
 cases d with
 |bl k=>exact⟨k,rfl,g⟩
 |_=>obtain⟨r,e,_⟩:=g;cases e
theorem iY(ha:DE X E a fa)(hb:DE X E (.BoolOp .And (b::rest) pos) fb):DE X E (.BoolOp .And (a::b::rest) pos) (fun δ=>fa δ>>=fun x=>fW x>>=fun k=>if k then fb δ else pure (.bl false)):=⟨PE.mono (pe_and ha.h hb.h) fun σ H Q h=>by
 obtain⟨ρ,δ,M,ev,j,g1⟩:=h
 refine⟨ρ,δ,M,ev,j,g1.bind fun ρ1 H1 M1 x dx e1 j1 c1 g2=>?_⟩
 obtain⟨k,rfl,g3⟩:=Go.isB g2
 cases c1
 refine⟨k,rfl,?_⟩
 cases k with
 |true=>exact iteT ⟨ρ1,δ,M1,ev.mono e1,j1,g3⟩
 |false=>exact iteF (Go.pure (a:=D.bl false) g3 ρ1 H1 _ .refl j1 (.bl false))⟩
theorem CG(ha:DE X E a fa):DE X E (.UnaryOp .Not a pos) (fun δ=>fa δ>>=fun x=>fW x>>=fun k=>pure (.bl (!k))):=⟨PE.mono (pe_not ha.h) fun σ H Q h=>by
 obtain⟨ρ,δ,M,ev,j,g1⟩:=h
 refine⟨ρ,δ,M,ev,j,g1.bind fun ρ1 H1 M1 x dx e1 j1 c1 g2=>?_⟩
 obtain⟨k,rfl,g3⟩:=Go.isB g2
 cases c1
 exact⟨k,rfl,g3.pure ρ1 H1 _ .refl j1 (.bl _)⟩⟩
theorem Lh(hc:DT X E c ta)(ha:DE X E a fa)(hb:DE X E b fb):DE X E (.IfExp c a b pos) (fun δ=>ta δ>>=fun k=>if k then fa δ else fb δ):=⟨PE.mono (pe_ifExp hc.h ha.h hb.h) fun σ H Q h=>by
 obtain⟨ρ,δ,M,ev,j,g1⟩:=h
 refine⟨ρ,δ,M,ev,j,g1.bind fun ρ1 H1 M1 x dx e1 j1 c1 g2=>?_⟩
 have c1:x=dx:=c1
 subst c1
 cases x with
 |true=>exact iteT ⟨ρ1,δ,M1,ev.mono e1,j1,g2⟩
 |false=>exact iteF ⟨ρ1,δ,M1,ev.mono e1,j1,g2⟩⟩
theorem ak:DA X E [] (fun _=>pure []):=⟨⟨PA.mono Km.h fun σ H Q h=>by
 obtain⟨ρ,δ,M,ev,j,g⟩:=h
 exact g.pure ρ H [] .refl j .nil⟩⟩
theorem aj{es:List Expr}{fs:ao->DM (List D)}(ha:DE X E a fa)(hr:DA X E es fs)(hs:notStar a=true:=by rfl):DA X E (a::es) (fun δ=>fa δ>>=fun x=>fs δ>>=fun xs=>pure (x::xs)):=⟨⟨PA.mono (Nt ha.h hr.h hs).h fun σ H Q h=>by
 obtain⟨ρ,δ,M,ev,j,g1⟩:=h
 exact⟨ρ,δ,M,ev,j,g1.bind fun ρ1 H1 M1 x dx e1 j1 c1 g2=>⟨ρ1,δ,M1,ev.mono e1,j1,g2.bind fun ρ2 H2 M2 xs dxs e2 j2 c2 g3=>g3.pure ρ2 H2 _ .refl j2 (.cons (c1.mono e2) c2)⟩⟩⟩⟩
def dJ{α:Type}(l:List α):Bool:=decide (l.length≤sizeLine)
def fY(l:List D):DM D:=opt (if dJ l then some (.tup l) else none)
def dN(l:List D):DM D:=opt (if dJ l then some (.lst l) else none)
def dH(l:List D):DM D:=fun M=>if dJ l then some (.ok (.ref M.length),M++[.lst l]) else none
theorem ue{l:List D}{d e:D}(h:(if dJ l then some d else none)=some e):l.length≤sizeLine∧d=e:=by
 split at h
 ·cases h;exact⟨of_decide_eq_true ‹_›,rfl⟩
 ·cases h
variable{es:List Expr}{fs:ao->DM (List D)}
theorem bj{x1}(h:DA X E es fs):DE X E (.Tuple es x1 pos) (fun δ=>fs δ>>=fY):=⟨PE.mono (Ij h.h) fun σ H Q h=>by
 obtain⟨ρ,δ,M,ev,j,g1⟩:=h
 refine⟨ρ,δ,M,ev,j,g1.bind fun ρ1 H1 M1 xs dxs e1 j1 c1 g2=>?_⟩
 obtain⟨d,e,q⟩:=Go.opt g2
 obtain⟨hz,rfl⟩:=ue e
 exact⟨by rw[c1.len];exact hz,fun p hp=>q ρ1 _ _ (.lay hp) (j1.lay _ hp) (.tup (j1.fresh hp) upd_same (c1.mono (.lay hp)))⟩⟩
theorem bM(h:DA X E es fs):DE X E (.List es pos) (fun δ=>fs δ>>=dN):=⟨PE.mono (zR h.h) fun σ H Q h=>by
 obtain⟨ρ,δ,M,ev,j,g1⟩:=h
 refine⟨ρ,δ,M,ev,j,g1.bind fun ρ1 H1 M1 xs dxs e1 j1 c1 g2=>?_⟩
 obtain⟨d,e,q⟩:=Go.opt g2
 obtain⟨hz,rfl⟩:=ue e
 exact⟨by rw[c1.len];exact hz,fun p hp=>q ρ1 _ _ (.lay hp) (j1.lay _ hp) (.lst (j1.fresh hp) upd_same (c1.mono (.lay hp)))⟩⟩
theorem Go.dH{mg:Str->Option Value}{ρ:Rh}{H:Hp}{M:Mo}{Q:VK}{l:List D}{xs:List V}{p:Addr}(g:Go mg E (Cv mg) Q ρ H (dH l) M)(j:J mg ρ M H)(c:Cvs mg ρ H xs l)(hp:H p=none):l.length≤sizeLine∧Q (.ref p) (upd H p (.lst xs)):=by
 obtain⟨r,e,q⟩:=g
 unfold L3.dH at e
 split at e
 ·cases e
  refine⟨of_decide_eq_true ‹_›,?_⟩
  have x:Ext ρ H (ρ.put p) (upd H p (.lst xs)):=.put hp
  refine q _ _ _ x (j.put hp ⟨xs,upd_same,c.mono x⟩) (.ref ?_)
  show (ρ.st++[p])[_]?=_
  rw[←j.len];simp
 ·cases e
theorem Go.mkR_len{mg:Str->Option Value}{ρ:Rh}{H:Hp}{M:Mo}{Q:VK}{l:List D}(g:Go mg E (Cv mg) Q ρ H (L3.dH l) M):l.length≤sizeLine:=by
 obtain⟨r,e,q⟩:=g
 unfold L3.dH at e
 split at e
 ·exact of_decide_eq_true ‹_›
 ·cases e
theorem qF(h:DA X E es fs):DE X E (.List es pos) (fun δ=>fs δ>>=dH):=⟨PE.mono (zR h.h) fun σ H Q h=>by
 obtain⟨ρ,δ,M,ev,j,g1⟩:=h
 refine⟨ρ,δ,M,ev,j,g1.bind fun ρ1 H1 M1 xs dxs e1 j1 c1 g2=>?_⟩
 exact⟨by rw[c1.len];exact g2.mkR_len,fun p hp=>(g2.dH j1 c1 hp).2⟩⟩
end
section
variable{X:Cx}{E:XK}{mg:Str->Option Value}{ρ:Rh}{H:Hp}{M:Mo}
theorem Go.rdb(g:Go mg E rel Q ρ H (L3.rd f>>=k) M):∃a,f M=some a∧Go mg E rel Q ρ H (k a) M:=by
 obtain⟨r,e,p⟩:=g
 have e:DM.bind _ _ M=some r:=e
 unfold DM.bind L3.rd at e
 cases h:f M with
 |none=>rw[h] at e;cases e
 |some a=>rw[h] at e;exact⟨a,rfl,r,e,p⟩
theorem bW.of{f:Value->Value->Sem Value}{g:D->D->Mo->Option D}(hr:OpR X f r)
  (h:∀x y H Q ρ M dx dy d,J X.mg ρ M H->Cv X.mg ρ H x dx->Cv X.mg ρ H y dy->g dx dy M=some d->(∀ρ' H' v,Ext ρ H ρ' H'->J X.mg ρ' M H'->Cv X.mg ρ' H' v d->Q v H')->r x y H Q):bW X E f (fun x y=>rd (g x y)):=by
 intro pins s σ H x y v u Q I rx ry q
 obtain⟨ρ,M,dx,dy,j,cx,cy,go⟩:=q
 obtain⟨d,e,p⟩:=go.rd
 exact hr pins s σ H x y v u Q I rx ry (h x y H Q ρ M dx dy d j cx cy e p)
def aU:D->Mo->Option (List D)
 |.lst l,_=>some l
 |.ref n,M=>match M[n]? with
   |some (.lst l)=>some l
   |_=>none
 |_,_=>none
theorem dg (j:J mg ρ M H) {l:List D} (c:Cv mg ρ H x d) (e:aU d M=some l):∃ a xs,x=.ref a∧H a=some (.lst xs)∧Cvs mg ρ H xs l:=by
 cases c with
 |lst n h c=>cases e;exact⟨_,_,rfl,h,c⟩
 | ref q=>
   unfold aU at e
   dsimp only at e
   split at e
   ·rename_i l' hl
    cases e
    obtain⟨xs,h,c⟩:=j.obj _ _ _ q hl
    exact⟨_,_,rfl,h,c⟩
   ·cases e
 |_=>cases e
theorem J.notup(j:J mg ρ M H)(h:H p=Option.some (HO.tup xs)):p∉ρ:=fun z=>by
 rcases z with z | z
 rotate_left
 ·obtain⟨_,ys,e⟩:=j.vol p z
  rw[h] at e;cases e
 obtain⟨n,hn⟩:=List.mem_iff_getElem?.mp z
 have lt:n<M.length:=by rw[←j.len];exact (List.getElem?_eq_some_iff.mp hn).1
 have c:=j.obj n p M[n] hn (List.getElem?_eq_getElem lt)
 cases hm:M[n] with
 |lst l=>rw[hm] at c;obtain⟨xs,e,_⟩:=c;rw[h] at e;cases e
 |dic ks l=>rw[hm] at c;obtain⟨xs,e,_⟩:=c;rw[h] at e;cases e
 |ins c' ns l=>rw[hm] at c;obtain⟨_,_,_,_,e,_⟩:=c;rw[h] at e;cases e
def vm(l:List D):Option D:=if dJ l then some (.tup l) else none
def Gk(l:List D):Option D:=if dJ l then some (.lst l) else none
def cg:D->D->Mo->Option D
 |.int i,.int j,_=>some (.int (i+j))
 |.str a,.str b,_=>if a.length+b.length≤sizeLine then some (.str (a++b)) else none
 |.tup l,.tup m,_=>vm (l++m)
 |x,y,M=>match aU x M,aU y M with
   |some l,some m=>Gk (l++m)
   |_,_=>none
theorem Fb (h:cg x y M=some d):(∃ i j,x=.int i∧y=.int j∧d=.int (i + j))∨(∃ a b,x=.str a∧y=.str b∧a.length + b.length≤sizeLine∧d=.str (a++b))∨(∃ l m,x=.tup l∧y=.tup m∧l.length + m.length≤sizeLine∧d=.tup (l++m)) ∨
  ∃l m,aU x M=some l∧aU y M=some m∧l.length+m.length≤sizeLine∧d=.lst (l++m):=by
 unfold cg at h
 split at h
 ·cases h;exact .inl ⟨_,_,rfl,rfl,rfl⟩
 ·split at h
  ·cases h;exact .inr (.inl ⟨_,_,rfl,rfl,‹_›,rfl⟩)
  ·cases h
 ·obtain⟨hz,rfl⟩:=ue h
  rw[List.length_append] at hz
  exact .inr (.inr (.inl ⟨_,_,rfl,rfl,hz,rfl⟩))
 ·split at h
  ·rename_i l m h1 h2
   obtain⟨hz,rfl⟩:=ue h
   rw[List.length_append] at hz
   exact .inr (.inr (.inr ⟨l,m,h1,h2,hz,rfl⟩))
  ·cases h
theorem aV:bW X E (binaryOp .Add) (fun x y=>rd (cg x y)):=by
 refine bW.of (op_add.or (op_add_str.or (Ia.or op_cat))) fun x y H Q ρ M dx dy d j cx cy e q=>?_
 rcases Fb e with ⟨i,k,rfl,rfl,rfl⟩ | ⟨i,k,rfl,rfl,hz,rfl⟩ | ⟨l,m,rfl,rfl,hz,rfl⟩ | ⟨l,m,h1,h2,hz,rfl⟩
 ·cases cx;cases cy
  exact .inl ⟨_,_,rfl,rfl,q ρ H _ .refl j (.int _)⟩
 ·cases cx;cases cy
  exact .inr (.inl ⟨_,_,rfl,rfl,hz,q ρ H _ .refl j (.str _)⟩)
 ·cases cx with | tup n1 a1 c1=>cases cy with | tup n2 a2 c2=>
  refine .inr (.inr (.inl ⟨_,_,_,_,rfl,rfl,a1,a2,by rw[c1.len,c2.len];exact hz,fun p H' S hp=>?_⟩))
  exact q ρ H' _ (.same S) (j.same S) (.tup ((j.same S).notup hp) hp ((c1.append c2).mono (.same S)))
 ·obtain⟨a1,x1,rfl,a2,c1⟩:=dg j cx h1
  obtain⟨b1,y1,rfl,b2,c2⟩:=dg j cy h2
  refine .inr (.inr (.inr ⟨_,_,_,_,rfl,rfl,a2,b2,by rw[c1.len,c2.len];exact hz,fun p hp=>?_⟩))
  exact q ρ _ _ (.lay hp) (j.lay _ hp) (.lst (j.fresh hp) upd_same ((c1.append c2).mono (.lay hp)))
def dG(C:Int->Int->Bool)(g:Int->Int->D):D->D->Mo->Option D
 |.int i,.int j,_=>if C i j then some (g i j) else none
 |_,_,_=>none
theorem uI(h:dG C g x y M=some d):∃i j,x=.int i∧y=.int j∧C i j=true∧d=g i j:=by
 unfold dG at h
 split at h
 ·split at h
  ·cases h;exact⟨_,_,rfl,rfl,‹_›,rfl⟩
  ·cases h
 ·cases h
theorem qK{f:Value->Value->Sem Value}{C:Int->Int->Bool}{g:Int->Int->Int}{P:Int->Int->Prop}(hr:OpR X f (rI P fun i j=>.int (g i j)))(hc:∀i j,C i j=true->P i j):bW X E f (fun x y=>rd (dG C (fun i j=>.int (g i j)) x y)):=
 bW.of hr fun x y H Q ρ M dx dy d j cx cy e q=>by
  obtain⟨i,k,rfl,rfl,hh,rfl⟩:=uI e
  cases cx;cases cy
  exact⟨_,_,rfl,rfl,hc _ _ hh,q ρ H _ .refl j (.int _)⟩
theorem sI{f:Value->Value->Sem Value}{g:Int->Int->Int}(hr:OpR X f (rI0 fun i j=>.int (g i j))):bW X E f (fun x y=>rd (dG (fun _ _=>true) (fun i j=>.int (g i j)) x y)):=
 bW.of hr fun x y H Q ρ M dx dy d j cx cy e q=>by
  obtain⟨i,k,rfl,rfl,hh,rfl⟩:=uI e
  cases cx;cases cy
  exact⟨_,_,rfl,rfl,q ρ H _ .refl j (.int _)⟩
theorem qJ{f:Value->Value->Sem Value}{g:Int->Int->Bool}(hr:OpR X f (rI0 fun i j=>.bl (g i j))):bW X E f (fun x y=>rd (dG (fun _ _=>true) (fun i j=>.bl (g i j)) x y)):=
 bW.of hr fun x y H Q ρ M dx dy d j cx cy e q=>by
  obtain⟨i,k,rfl,rfl,hh,rfl⟩:=uI e
  cases cx;cases cy
  exact⟨_,_,rfl,rfl,q ρ H _ .refl j (.bl _)⟩
abbrev o4:D->D->Mo->Option D:=dG (fun _ _=>true) fun i j=>.int (i-j)
theorem cJ:bW X E (binaryOp .Sub) (fun x y=>rd (o4 x y)):=sI op_sub
def f9(i j:Int):Bool:=!(decide (Builtin.Int.intBits i > shortFactorBits)&&decide (Builtin.Int.intBits j > shortFactorBits)&&Builtin.Int.intTooBig (Builtin.Int.intBits i+Builtin.Int.intBits j))
theorem f9.ok(h:f9 i j=true):IntMulOk i j:=fun z=>by
 unfold f9 at h
 rw[z] at h;cases h
abbrev gM:D->D->Mo->Option D:=dG f9 fun i j=>.int (i*j)
theorem eQ:bW X E (binaryOp .Mult) (fun x y=>rd (gM x y)):=qK Ig fun i j h=>f9.ok h
def qG(i j:Int):Bool:=decide (0<j)&&!Builtin.divisionGoesByPylong i j
theorem Gq:OpR X (binaryOp .FloorDiv) (rI (fun i j=>qG i j=true) fun i j=>.int (i / j)):=opI fun i j _ _ _ _ _ hc q=>by
 unfold qG at hc
 have h0:0<j:=by
  have:=(Bool.and_eq_true _ _).mp hc
  exact of_decide_eq_true this.1
 have h1:Builtin.divisionGoesByPylong i j=false:=by
  have:=(Bool.and_eq_true _ _).mp hc
  simpa using this.2
 have e:i.fdiv j=i / j:=Int.fdiv_eq_ediv_of_nonneg i (Int.le_of_lt h0)
 exact floordiv_int (Int.ne_of_gt h0) (by rw[e];exact q) (.inl h1)
abbrev iV:D->D->Mo->Option D:=dG qG fun i j=>.int (i / j)
theorem iH:bW X E (binaryOp .FloorDiv) (fun x y=>rd (iV x y)):=qK Gq fun i j h=>h
abbrev kJ:D->D->Mo->Option D:=dG (fun _ j=>decide (0<j)) fun i j=>.int (i%j)
theorem jO:bW X E (binaryOp .Mod) (fun x y=>rd (kJ x y)):=qK op_mod fun i j h=>of_decide_eq_true h
def Hj(i j:Int):Bool:=decide (0≤j∧j≤1000000∧i.natAbs<2^64)
abbrev uT:D->D->Mo->Option D:=dG Hj fun i j=>.int (i^j.toNat)
theorem m8:bW X E (binaryOp .Pow) (fun x y=>rd (uT x y)):=qK op_pow fun i j h=>of_decide_eq_true (p:=0≤j∧j≤1000000∧i.natAbs<2^64) h
abbrev Dl:D->D->Mo->Option D:=dG (fun _ _=>true) fun i j=>.bl (decide (i<j))
abbrev JF:D->D->Mo->Option D:=dG (fun _ _=>true) fun i j=>.bl (decide (i≤j))
abbrev Ha:D->D->Mo->Option D:=dG (fun _ _=>true) fun i j=>.bl (decide (j<i))
abbrev zG:D->D->Mo->Option D:=dG (fun _ _=>true) fun i j=>.bl (decide (j≤i))
theorem xW:bW X E (compareOp .Lt) (fun x y=>rd (Dl x y)):=qJ op_lt
theorem qb:bW X E (compareOp .LtE) (fun x y=>rd (JF x y)):=qJ op_le
theorem Dv:bW X E (compareOp .Gt) (fun x y=>rd (Ha x y)):=qJ op_gt
theorem xU:bW X E (compareOp .GtE) (fun x y=>rd (zG x y)):=qJ op_ge
def eqP(x y:D):Option Bool:=match toPy x,toPy y with
 |some p,some q=>if p.canLay0&&q.canLay0&&decide (p.depth≤60) then some (PyData.eqv p q) else none
 |_,_=>none
def eqB:D->D->Option Bool
 |.str a,.str b=>some (decide (a=b))
 |x,y=>eqP x y
def dF(x y:D)(_:Mo):Option D:=(eqB x y).map .bl
def du(x y:D)(_:Mo):Option D:=(eqB x y).map fun b=>.bl (!b)
theorem Jm (h:eqP x y=some b):∃ p q,toPy x=some p∧toPy y=some q∧p.canLay0=true∧q.canLay0=true∧p.depth≤60∧b=PyData.eqv p q:=by
 unfold eqP at h
 split at h
 ·rename_i p q h1 h2
  split at h
  ·rename_i hc
   cases h
   simp only[Bool.and_eq_true,decide_eq_true_eq] at hc
   exact⟨p,q,h1,h2,hc.1.1,hc.1.2,hc.2,rfl⟩
  ·cases h
 ·cases h
theorem Jl(h:eqB x y=some b):(∃a c,x=.str a∧y=.str c∧b=decide (a=c))∨eqP x y=some b:=by
 unfold eqB at h
 split at h
 ·cases h;exact .inl ⟨_,_,rfl,rfl,rfl⟩
 ·exact .inr h
theorem Iw:decide (V.str a=V.str c)=decide (a=c):=by
 rw[Bool.eq_iff_iff];simp
theorem zO(h1:OpR X f (fun x y H Q=>scal x y=true∧Q (.bl (n ^^ decide (x=y))) H))(h2:OpR X f (GD X.K n)):bW X E f (fun x y=>rd fun _=>(eqB x y).map fun b=>.bl (n ^^ b)):=by
 intro pins s σ H x y v u Q I rx ry q
 obtain⟨ρ,M,dx,dy,j,cx,cy,g⟩:=q
 obtain⟨d,e,q⟩:=Go.rd g
 obtain⟨b,hb,rfl⟩:=Option.map_eq_some_iff.mp e
 rcases Jl hb with ⟨a,c,rfl,rfl,rfl⟩ | hb
 ·cases cx;cases cy
  refine h1 pins s σ H _ _ v u Q I rx ry ⟨rfl,?_⟩
  rw[Iw]
  exact q ρ H _ .refl j (.bl _)
 ·obtain⟨p,p',k1,k2,h3,h4,h5,rfl⟩:=Jm hb
  refine h2 pins s σ H x y v u Q I rx ry ⟨p,p',(cx.repF k1).toRep,(cy.repF k2).toRep,h3,h4,h5,?_⟩
  have:=q ρ H _ .refl j (.bl _)
  cases n
  ·simpa using this
  ·simpa using this
theorem cR(hu:X.A.units+64<cLine):bW X E (compareOp .Eq) (fun x y=>rd (dF x y)):=by
 have h:=zO (X:=X) (E:=E) (n:=false) (f:=compareOp .Eq) (fun pins s σ H x y v u Q I rx ry q=>op_eq (X:=X) pins s σ H x y v u Q I rx ry ⟨q.1,by simpa using q.2⟩) (J3 hu)
 have e:(fun x y=>(rd (dF x y):DM D))=fun x y=>rd fun _=>(eqB x y).map fun b=>.bl (false ^^ b):=by
  funext x y
  show rd _=rd _
  congr 1
  funext M
  simp only[dF,Bool.false_xor,Bool.true_xor]
 rw[e];exact h
theorem cz(hu:X.A.units+64<cLine):bW X E (compareOp .NotEq) (fun x y=>rd (du x y)):=by
 have h:=zO (X:=X) (E:=E) (n:=true) (f:=compareOp .NotEq) (fun pins s σ H x y v u Q I rx ry q=>op_ne (X:=X) pins s σ H x y v u Q I rx ry ⟨q.1,by simpa using q.2⟩) (J5 hu)
 have e:(fun x y=>(rd (du x y):DM D))=fun x y=>rd fun _=>(eqB x y).map fun b=>.bl (true ^^ b):=by
  funext x y
  show rd _=rd _
  congr 1
  funext M
  simp only[du,Bool.false_xor,Bool.true_xor]
 rw[e];exact h
def Bc:D->D->Mo->Option D
 |.tup [c],.int k,_=>if decide (1≤k∧k≤1000) then some (.tup (List.replicate k.toNat c)) else none
 |_,_,_=>none
theorem Cvs.rep(c:Cv mg ρ H v d):∀n,Cvs mg ρ H (List.replicate n v) (List.replicate n d)
 |0=>.nil
 |n+1=>.cons c (Cvs.rep c n)
theorem Ih:bW X E (binaryOp .Mult) (fun x y=>rd (Bc x y)):=bW.of Ii fun x y H Q ρ M dx dy d j cx cy e q=>by
 unfold Bc at e
 split at e
 ·split at e
  ·rename_i hk
   have hk:=of_decide_eq_true hk
   cases e
   cases cy
   cases cx with | tup n a c=>cases c with | cons c1 c2=>
   cases c2
   refine⟨_,_,_,rfl,rfl,a,hk.1,hk.2,fun p H' S hp=>?_⟩
   exact q ρ H' _ (.same S) (j.same S) (.tup ((j.same S).notup hp) hp ((Cvs.rep c1 _).mono (.same S)))
  ·cases e
 ·cases e
def Bo(l:List D)(k:Int):Option (List D):=if decide (-(2^63)≤k∧k<2^63∧l.length*k.toNat≤sizeLine) then some (List.replicate k.toNat l).flatten else none
theorem Cvs.reps{vs:List V}{ds:List D}(c:Cvs mg ρ H vs ds):∀n,Cvs mg ρ H (List.replicate n vs).flatten (List.replicate n ds).flatten
 |0=>.nil
 |n+1=>by rw[List.replicate_succ,List.replicate_succ,List.flatten_cons,List.flatten_cons];exact c.append (Cvs.reps c n)
def sG(x y:D)(M:Mo):Option (List D):=match aU x M,y with
 |some l,.int k=>Bo l k
 |_,_=>none
theorem zN {l:List D} (h:sG x y M=some l):∃ m k,aU x M=some m∧y=.int k∧(-(2 ^ 63)≤k∧k<2 ^ 63∧m.length * k.toNat≤sizeLine)∧l=(List.replicate k.toNat m).flatten:=by
 unfold sG at h
 split at h
 ·rename_i m k h1
  unfold Bo at h
  split at h
  ·rename_i hk
   cases h
   exact⟨m,k,h1,rfl,of_decide_eq_true hk,rfl⟩
  ·cases h
 ·cases h
theorem zP:bW X E (binaryOp .Mult) (fun x y=>rd (fun M=>(sG x y M).map .lst)):=bW.of op_rep fun x y H Q ρ M dx dy d j cx cy e q=>by
 obtain⟨l,e1,rfl⟩:=Option.map_eq_some_iff.mp e
 obtain⟨m,k,h1,rfl,⟨h2,h3,h4⟩,rfl⟩:=zN e1
 obtain⟨a,xs,rfl,ha,c⟩:=dg j cx h1
 cases cy
 refine⟨_,_,_,rfl,rfl,ha,h2,h3,by rw[c.len];exact h4,fun p hp=>?_⟩
 exact q ρ _ _ (.lay hp) (j.lay _ hp) (.lst (j.fresh hp) upd_same ((Cvs.reps c _).mono (.lay hp)))
def uP(x y:D):DM D:=rd (sG x y)>>=dH
theorem zQ:bW X E (binaryOp .Mult) uP:=by
 intro pins s σ H x y v u Q I rx ry q
 obtain⟨ρ,M,dx,dy,j,cx,cy,go⟩:=q
 obtain⟨l,e1,g⟩:=Go.rdb go
 obtain⟨m,k,h1,rfl,⟨h2,h3,h4⟩,rfl⟩:=zN e1
 obtain⟨a,xs,rfl,ha,c⟩:=dg j cx h1
 cases cy
 exact op_rep (X:=X) pins s σ H _ _ v u Q I rx ry ⟨_,_,_,rfl,rfl,ha,h2,h3,by rw[c.len];exact h4,fun p hp=>(g.dH j (Cvs.reps c _) hp).2⟩
def Gp:D->Mo->Option D
 |.int i,_=>some (.int (-i))
 |_,_=>none
theorem pQ(ha:DE X E a fa):DE X E (.UnaryOp .USub a pos) (fun δ=>fa δ>>=fun x=>rd (Gp x)):=⟨PE.mono (pe_un un_neg ha.h) fun σ H Q h=>by
 obtain⟨ρ,δ,M,ev,j,g1⟩:=h
 refine⟨ρ,δ,M,ev,j,g1.bind fun ρ1 H1 M1 x dx e1 j1 c1 g2=>?_⟩
 obtain⟨d,e,q⟩:=g2.rd
 unfold Gp at e
 split at e
 ·cases e;cases c1
  exact⟨_,rfl,q ρ1 H1 _ .refl j1 (.int _)⟩
 ·cases e⟩
theorem Cvs.at(c:Cvs mg ρ H vs ds)(h:atI ds i=some d):∃v,atI vs i=some v∧Cv mg ρ H v d:=by
 unfold atI at h ⊢
 rw[c.len]
 obtain⟨n,hn,e⟩:=Option.bind_eq_some_iff.mp h
 obtain⟨v,e2,cv⟩:=c.get e
 exact⟨v,by rw[hn];exact e2,cv⟩
def cF:D->D->Mo->Option D
 |.tup l,.int i,_=>atI l i
 |.scr l,.int i,_=>(atI l i).map .int
 |x,.int i,M=>(aU x M).bind fun l=>atI l i
 |_,_,_=>none
def Mx(X:Cx)(E:XK)(g:D->D->DM D):Prop:=IxR X (rD X.mg E g)
theorem aQ:Mx X E (fun x y=>rd (cF x y)):=by
 intro value slice pins s σ H x y v u Q I rx ry q hs
 obtain⟨ρ,M,dx,dy,j,cx,cy,go⟩:=q
 obtain⟨d,e,p⟩:=go.rd
 unfold cF at e
 split at e
 ·cases cy
  cases cx with | tup n a c=>
  obtain⟨w,e2,cw⟩:=c.at e
  exact ix_tup (X:=X) value slice pins s σ H _ _ v u Q I rx ry ⟨_,_,_,_,rfl,rfl,SqT.of a,e2,p ρ H _ .refl j cw⟩ hs
 ·rename_i l i
  cases cy
  cases cx with | scr n a=>
  obtain⟨z,e1,rfl⟩:=Option.map_eq_some_iff.mp e
  have e2:atI (l.map V.int) i=some (V.int z):=by
   unfold atI at e1 ⊢
   rw[List.length_map]
   obtain⟨n,hn,e⟩:=Option.bind_eq_some_iff.mp e1
   rw[hn]
   show (List.map V.int _)[n]?=_
   rw[List.getElem?_map,e];rfl
  exact ix_list (X:=X) value slice pins s σ H _ _ v u Q I rx ry ⟨_,_,_,_,rfl,rfl,.inl a,e2,p ρ H _ .refl j (.int z)⟩ hs
 ·cases cy
  obtain⟨l,h1,e1⟩:=Option.bind_eq_some_iff.mp e
  obtain⟨a,xs,rfl,ha,c⟩:=dg j cx h1
  obtain⟨w,e2,cw⟩:=c.at e1
  exact ix_list (X:=X) value slice pins s σ H _ _ v u Q I rx ry ⟨_,_,_,_,rfl,rfl,SqL.of ha,e2,p ρ H _ .refl j cw⟩ hs
 ·cases e
theorem aM(hi:Mx X E g)(ha:DE X E a fa)(hb:DE X E b fb)(hs:PlainIx b:=by exact fun _ _=>rfl):DE X E (.Subscript a b pos) (fun δ=>fa δ>>=fun x=>fb δ>>=fun y=>g x y):=
 ⟨PE.mono (pe_ix hi ha.h hb.h hs) fun σ H Q h=>zH (fun _ _ _ _ z=>z) h⟩
def G6:D->DM (Option Int)
 |.int i=>pure (some i)
 |_=>stuck
def cutD(xs:List D)(lo hi:Option Int):List D:=(xs.drop (HT.sIx xs.length 0 lo)).take (HT.sIx xs.length xs.length hi-HT.sIx xs.length 0 lo)
theorem Cvs.cut(c:Cvs mg ρ H vs ds)(lo hi:Option Int):Cvs mg ρ H (cutV vs lo hi) (cutD ds lo hi):=by
 unfold cutV cutD
 rw[c.len]
 exact (c.drop _).take _
structure DP(X:Cx)(E:XK)(e:Option Expr)(f:ao->DM (Option Int)):Prop where
 h:PO X e (tD X.mg E (fun _ _ (b a:Option Int)=>b=a) f)
theorem PO.mono(h:PO X e t)(f:∀σ H Q,t' σ H Q->t σ H Q):PO X e t':=fun pins s σ H Q I q=>h pins s σ H Q I (f σ H Q q)
theorem fJ:DP X E none (fun _=>pure none):=⟨PO.mono po_none fun σ H Q h=>by
 obtain⟨ρ,δ,M,ev,j,g⟩:=h
 exact g.pure ρ H none .refl j rfl⟩
theorem dD(ha:DE X E a fa):DP X E (some a) (fun δ=>fa δ>>=G6):=⟨PO.mono (po_some ha.h) fun σ H Q h=>by
 obtain⟨ρ,δ,M,ev,j,g1⟩:=h
 refine⟨ρ,δ,M,ev,j,g1.bind fun ρ1 H1 M1 x dx e1 j1 c1 g2=>?_⟩
 cases dx with
 |int i=>cases c1;exact⟨i,rfl,Go.pure (a:=some i) g2 ρ1 H1 _ .refl j1 rfl⟩
 |_=>obtain⟨r,e,_⟩:=g2;cases e⟩
def nJ(lo hi:Option Int):D->Mo->Option D
 |.tup l,_=>some (.tup (cutD l lo hi))
 |x,M=>(aU x M).map fun l=>.lst (cutD l lo hi)
theorem NB:SlR X (fun x lo hi H Q=>∃ρ M dx d,J X.mg ρ M H∧Cv X.mg ρ H x dx∧nJ lo hi dx M=some d∧∀ρ' H' v,Ext ρ H ρ' H'->J X.mg ρ' M H'->Cv X.mg ρ' H' v d->Q v H'):=by
 intro pins s σ H x v vl vu lo hi sl Q I rx hs pl pu h
 obtain⟨ρ,M,dx,d,j,c,e,q⟩:=h
 unfold nJ at e
 split at e
 ·cases e
  cases c with | tup n a c=>
  refine Iu (X:=X) pins s σ H _ v vl vu lo hi sl Q I rx hs pl pu ⟨_,_,rfl,a,fun p H' S hp=>?_⟩
  exact q ρ H' _ (.same S) (j.same S) (.tup ((j.same S).notup hp) hp ((c.cut lo hi).mono (.same S)))
 ·obtain⟨l,h1,rfl⟩:=Option.map_eq_some_iff.mp e
  obtain⟨a,xs,rfl,ha,c⟩:=dg j c h1
  refine sl_list (X:=X) pins s σ H _ v vl vu lo hi sl Q I rx hs pl pu ⟨_,_,rfl,SqL.of ha,fun p hp=>?_⟩
  exact q ρ _ _ (.lay hp) (j.lay _ hp) (.lst (j.fresh hp) upd_same ((c.cut lo hi).mono (.lay hp)))
theorem dq{fa:ao->DM D}{lo hi:Option Expr}{fl fh:ao->DM (Option Int)}(ha:DE X E a fa)(hl:DP X E lo fl)(hh:DP X E hi fh) :
  DE X E (.Subscript a (.Slice lo hi none p2) pos) (fun δ=>fa δ>>=fun x=>fl δ>>=fun l=>fh δ>>=fun h=>rd (nJ l h x)):=⟨PE.mono (pe_slice NB ha.h hl.h hh.h) fun σ H Q h=>by
 obtain⟨ρ,δ,M,ev,j,g1⟩:=h
 refine⟨ρ,δ,M,ev,j,g1.bind fun ρ1 H1 M1 x dx e1 j1 c1 g2=>⟨ρ1,δ,M1,ev.mono e1,j1,g2.bind fun ρ2 H2 M2 l dl e2 j2 c2 g3=>⟨ρ2,δ,M2,(ev.mono e1).mono e2,j2,g3.bind fun ρ3 H3 M3 h dh e3 j3 c3 g4=>?_⟩⟩⟩
 have c2:l=dl:=c2
 have c3:h=dh:=c3
 subst c2 c3
 obtain⟨d,e,q⟩:=g4.rd
 exact⟨ρ3,M3,dx,d,j3,(c1.mono e2).mono e3,e,q⟩⟩
end
inductive Fl where
 |nx (δ:ao) | rt (d:D) | bk (δ:ao) | ct (δ:ao)
def qC(mg:Str->Option Value)(ρ:Rh)(H:Hp)(D:Ends)(E:XK):R Fl×Mo->Prop
 |(.ok (.nx δ'),M')=>∀ρ' H' σ',Ext ρ H ρ' H'->J mg ρ' M' H'->Ev mg ρ' H' σ' δ'->D.nx σ' H'
 |(.ok (.bk δ'),M')=>∀ρ' H' σ',Ext ρ H ρ' H'->J mg ρ' M' H'->Ev mg ρ' H' σ' δ'->D.bk σ' H'
 |(.ok (.ct δ'),M')=>∀ρ' H' σ',Ext ρ H ρ' H'->J mg ρ' M' H'->Ev mg ρ' H' σ' δ'->D.ct σ' H'
 |(.ok (.rt d),M')=>∀ρ' H' v,Ext ρ H ρ' H'->J mg ρ' M' H'->Cv mg ρ' H' v d->D.rt v H'
 |(.exc c,M')=>∀ρ' H' C,Ext ρ H ρ' H'->J mg ρ' M' H'->mg c=some (.ref C)->E (.ref C) none H'
def bB(mg:Str->Option Value)(E:XK)(D:Ends)(ρ:Rh)(H:Hp)(m:DM Fl)(M:Mo):Prop:=∃r,m M=some r∧qC mg ρ H D E r
section
variable{mg:Str->Option Value}{ρ ρ':Rh}{H H':Hp}{E:XK}{α β:Type}{rel:Rh->Hp->β->α->Prop}{D D':Ends}{Q':β->Hp->Prop}{M:Mo}
theorem qC.mono(e:Ext ρ H ρ' H')(h:qC mg ρ H D E r):qC mg ρ' H' D E r:=by
 obtain⟨r,M'⟩:=r
 cases r with
 |ok a=>cases a<;>exact fun ρ2 H2 b e2 j c=>h ρ2 H2 b (e.trans e2) j c
 |exc c=>exact fun ρ2 H2 C e2 j m=>h ρ2 H2 C (e.trans e2) j m
theorem bB.bind(g:bB mg E D ρ H (m>>=k) M)
  (f:∀ρ1 H1 M1 b a,Ext ρ H ρ1 H1->J mg ρ1 M1 H1->rel ρ1 H1 b a->bB mg E D ρ1 H1 (k a) M1->Q' b H1):Go mg E rel Q' ρ H m M:=by
 obtain⟨r,e,p⟩:=g
 have e:DM.bind m k M=some r:=e
 unfold DM.bind at e
 split at e
 ·cases e
 ·rename_i c M' em
  cases e
  exact⟨_,em,p⟩
 ·rename_i a M' em
  exact⟨_,em,fun ρ1 H1 b x j c=>f ρ1 H1 M' b a x j c ⟨r,e,p.mono x⟩⟩
theorem bB.pure(g:bB mg E D ρ H (pure a) M):qC mg ρ H D E (.ok a,M):=by
 obtain⟨r,e,p⟩:=g
 have e:some (R.ok a,M)=some r:=e
 cases e
 exact p
def mK(f g:ao->DM Fl):ao->DM Fl:=fun δ=>f δ>>=fun r=>match r with
 |.nx δ'=>g δ'
 |r=>Pure.pure r
theorem bB.seq(g:bB mg E D ρ H (f>>=k) M)
  (hn:∀δ' ρ1 H1 M1 σ1,Ext ρ H ρ1 H1->J mg ρ1 M1 H1->Ev mg ρ1 H1 σ1 δ'->bB mg E D ρ1 H1 (k (.nx δ')) M1->D'.nx σ1 H1)
  (hb:∀δ' ρ1 H1 M1 σ1,Ext ρ H ρ1 H1->J mg ρ1 M1 H1->Ev mg ρ1 H1 σ1 δ'->bB mg E D ρ1 H1 (k (.bk δ')) M1->D'.bk σ1 H1)
  (hc:∀δ' ρ1 H1 M1 σ1,Ext ρ H ρ1 H1->J mg ρ1 M1 H1->Ev mg ρ1 H1 σ1 δ'->bB mg E D ρ1 H1 (k (.ct δ')) M1->D'.ct σ1 H1)
  (hr:∀d ρ1 H1 M1 v,Ext ρ H ρ1 H1->J mg ρ1 M1 H1->Cv mg ρ1 H1 v d->bB mg E D ρ1 H1 (k (.rt d)) M1->D'.rt v H1):bB mg E D' ρ H f M:=by
 obtain⟨r,e,p⟩:=g
 have e:DM.bind f k M=some r:=e
 unfold DM.bind at e
 split at e
 ·cases e
 ·rename_i c M' em
  cases e
  exact⟨_,em,p⟩
 ·rename_i a M' em
  refine⟨_,em,?_⟩
  cases a with
  |nx δ'=>exact fun ρ1 H1 b x j c=>hn δ' ρ1 H1 M' b x j c ⟨r,e,p.mono x⟩
  |bk δ'=>exact fun ρ1 H1 b x j c=>hb δ' ρ1 H1 M' b x j c ⟨r,e,p.mono x⟩
  |ct δ'=>exact fun ρ1 H1 b x j c=>hc δ' ρ1 H1 M' b x j c ⟨r,e,p.mono x⟩
  |rt d=>exact fun ρ1 H1 b x j c=>hr d ρ1 H1 M' b x j c ⟨r,e,p.mono x⟩
end
def tS(mg:Str->Option Value)(E:XK)(f:ao->DM Fl):TS:=fun D σ H=>∃ρ δ M,Ev mg ρ H σ δ∧J mg ρ M H∧bB mg E D ρ H (f δ) M
structure DS(X:Cx)(E:XK)(st:Stmt)(f:ao->DM Fl):Prop where
 h:PS X st (tS X.mg E f)
structure DSs(X:Cx)(E:XK)(st:List Stmt)(f:ao->DM Fl):Prop where
 h:PSs X st (tS X.mg E f)
theorem PS.mono(h:PS X e t)(f:∀D σ H,t' D σ H->t D σ H):PS X e t':=fun pins s σ H D I q=>h pins s σ H D I (f D σ H q)
theorem PSs.mono(h:PSs X e t)(f:∀D σ H,t' D σ H->t D σ H):PSs X e t':=fun pins s σ H D I q=>h pins s σ H D I (f D σ H q)
section
variable{X:Cx}{E:XK}{st:Stmt}{rest:List Stmt}{f g:ao->DM Fl}{e:Expr}{fe:ao->DM D}{pos:Pos}
theorem aY:DSs X E [] (fun δ=>pure (.nx δ)):=⟨PSs.mono pss_nil fun D σ H h=>by
 obtain⟨ρ,δ,M,ev,j,g⟩:=h
 exact g.pure ρ H σ .refl j ev⟩
theorem az(h:DS X E st f):DSs X E [st] f:=⟨pss_one h.h⟩
theorem aq(h1:DS X E st f)(h2:DSs X E rest g):DSs X E (st::rest) (mK f g):=⟨PSs.mono (pss_cons h1.h h2.h) fun D σ H h=>by
 obtain⟨ρ,δ,M,ev,j,g1⟩:=h
 refine⟨ρ,δ,M,ev,j,g1.seq (fun δ' ρ1 H1 M1 σ1 e1 j1 ev1 g2=>⟨ρ1,δ',M1,ev1,j1,g2⟩) (fun δ' ρ1 H1 M1 σ1 e1 j1 ev1 g2=>?_) (fun δ' ρ1 H1 M1 σ1 e1 j1 ev1 g2=>?_) (fun d ρ1 H1 M1 v e1 j1 c1 g2=>?_)⟩
 ·exact bB.pure g2 ρ1 H1 σ1 .refl j1 ev1
 ·exact bB.pure g2 ρ1 H1 σ1 .refl j1 ev1
 ·exact bB.pure g2 ρ1 H1 v .refl j1 c1⟩
theorem aD(he:DE X E e fe):DS X E (.Return (some e) pos) (fun δ=>fe δ>>=fun d=>pure (.rt d)):=⟨PS.mono (L2.ps_ret he.h) fun D σ H h=>by
 obtain⟨ρ,δ,M,ev,j,g1⟩:=h
 exact⟨ρ,δ,M,ev,j,g1.bind fun ρ1 H1 M1 v d e1 j1 c1 g2=>g2.pure ρ1 H1 v .refl j1 c1⟩⟩
theorem eN(he:DE X E e fe)(hs:swapsWith e none pos.line X.env=pure false:=by rfl):DS X E (.Expr e pos) (fun δ=>fe δ>>=fun _=>pure (.nx δ)):=⟨PS.mono (ps_expr he.h hs) fun D σ H h=>by
 obtain⟨ρ,δ,M,ev,j,g1⟩:=h
 exact⟨ρ,δ,M,ev,j,g1.bind fun ρ1 H1 M1 v d e1 j1 c1 g2=>g2.pure ρ1 H1 σ .refl j1 (ev.mono e1)⟩⟩
theorem aW(hN:X.N.Nodup)(hi:X.N[i]?=some x)(hx:Loc X.env.scope x)(he:DE X E e fe)(hs:swapsWith e (some (.Name x pos')) pos.line X.env=pure false:=by rfl)(hf:X.fn x=true∨X.env.scope.names.lookup x=some .local:=by first | exact .inl rfl | exact .inr rfl | assumption) :
  DS X E (.Assign [.Name x pos'] e pos) (fun δ=>fe δ>>=fun d=>pure (.nx (δ.set i (some d)))):=⟨PS.mono (ps_set hN hi hx he.h hs hf) fun D σ H h=>by
 obtain⟨ρ,δ,M,ev,j,g1⟩:=h
 exact⟨ρ,δ,M,ev,j,g1.bind fun ρ1 H1 M1 v d e1 j1 c1 g2=>g2.pure ρ1 H1 _ .refl j1 ((ev.mono e1).set c1)⟩⟩
theorem bA(hc:DT X E c tc)(ha:DSs X E a f)(hb:DSs X E b g):DS X E (.If c a b pos) (fun δ=>tc δ>>=fun k=>if k then f δ else g δ):=⟨PS.mono (L2.ps_if hc.h ha.h hb.h) fun D σ H h=>by
 obtain⟨ρ,δ,M,ev,j,g1⟩:=h
 refine⟨ρ,δ,M,ev,j,g1.bind fun ρ1 H1 M1 x dx e1 j1 c1 g2=>?_⟩
 have c1:x=dx:=c1
 subst c1
 cases x with
 |true=>exact iteT ⟨ρ1,δ,M1,ev.mono e1,j1,g2⟩
 |false=>exact iteF ⟨ρ1,δ,M1,ev.mono e1,j1,g2⟩⟩
def tG(mg:Str->Option Value)(E:XK)(fg:D->ao->DM ao):TG:=fun v σ H Q=>∃ρ δ M d,Ev mg ρ H σ δ∧J mg ρ M H∧Cv mg ρ H v d∧Go mg E (Ev mg) Q ρ H (fg d δ) M
def Ow(mg:Str->Option Value)(E:XK)(fg:List D->ao->DM ao):TGs:=fun vs σ H Q=>∃ρ δ M ds,Ev mg ρ H σ δ∧J mg ρ M H∧Cvs mg ρ H vs ds∧Go mg E (Ev mg) Q ρ H (fg ds δ) M
structure DG(X:Cx)(E:XK)(tg:Expr)(fg:D->ao->DM ao):Prop where
 h:PG X tg (tG X.mg E fg)
structure DGs(X:Cx)(E:XK)(tg:List Expr)(fg:List D->ao->DM ao):Prop where
 h:PGs X tg (Ow X.mg E fg)
theorem PG.mono(h:PG X tg t)(f:∀v σ H Q,t' v σ H Q->t v σ H Q):PG X tg t':=fun pins s σ H v u Q I r q=>h pins s σ H v u Q I r (f v σ H Q q)
theorem PGs.mono(h:PGs X tg t)(f:∀v σ H Q,t' v σ H Q->t v σ H Q):PGs X tg t':=fun pins s σ H v u Q I r q=>h pins s σ H v u Q I r (f v σ H Q q)
def gN(i:Nat):D->ao->DM ao:=fun d δ=>pure (δ.set i (some d))
theorem aG(hN:X.N.Nodup)(hi:X.N[i]?=some x)(hx:Loc X.env.scope x)(hf:X.fn x=true∨X.env.scope.names.lookup x=some .local:=by first | exact .inl rfl | exact .inr rfl | assumption):DG X E (.Name x pos) (gN i):=
 ⟨PG.mono (pg_name hN hi hx hf) fun v σ H Q h=>by
  obtain⟨ρ,δ,M,d,ev,j,c,g1⟩:=h
  exact Go.pure g1 ρ H _ .refl j (ev.set c)⟩
def qH:List D->ao->DM ao
 |[],δ=>pure δ
 |_,_=>stuck
def fu(f:D->ao->DM ao)(fs:List D->ao->DM ao):List D->ao->DM ao
 |d::l,δ=>f d δ>>=fun δ'=>fs l δ'
 |_,_=>stuck
theorem cj:DGs X E [] qH:=⟨PGs.mono pgs_nil fun vs σ H Q h=>by
 obtain⟨ρ,δ,M,ds,ev,j,c,g1⟩:=h
 cases c with
 |nil=>exact⟨rfl,Go.pure (a:=δ) g1 ρ H σ .refl j ev⟩
 |cons _ _=>obtain⟨r,e,_⟩:=g1;cases e⟩
theorem aN (h1:DG X E e fg) (h2:DGs X E es fgs) (hs:(assignEach (e::es) X.env).map (·.2)=assign e X.env::(assignEach es X.env).map (·.2):=by rfl):DGs X E (e::es) (fu fg fgs):=
 ⟨PGs.mono (pgs_cons h1.h h2.h hs) fun vs σ H Q h=>by
  obtain⟨ρ,δ,M,ds,ev,j,c,g1⟩:=h
  cases c with
  |nil=>obtain⟨r,e,_⟩:=g1;cases e
  |cons c1 c2=>
    have g1:Go X.mg E (Ev X.mg) Q ρ H (fg _ δ>>=fun δ'=>fgs _ δ') M:=g1
    exact⟨_,_,rfl,ρ,δ,M,_,ev,j,c1,g1.bind fun ρ1 H1 M1 σ1 δ1 e1 j1 ev1 g2=>⟨ρ1,δ1,M1,_,ev1,j1,c2.mono e1,g2⟩⟩⟩
def gT(n:Nat)(fs:List D->ao->DM ao):D->ao->DM ao
 |.tup l,δ=>if l.length=n then fs l δ else stuck
 |_,_=>stuck
theorem cX (hc:X.calm=true) (h:DGs X E es fgs) (hn:(assignEach es X.env).length=n:=by rfl) (hst:(assignEach es X.env).findIdx? (·.1)=none:=by rfl):DG X E (.Tuple es k pos) (gT n fgs):=
 ⟨PG.mono (pg_tup hc h.h hn hst) fun v σ H Q h=>by
  obtain⟨ρ,δ,M,d,ev,j,c,g1⟩:=h
  cases c with
  | tup nx a c=>
    have g1:Go X.mg E (Ev X.mg) Q ρ H (if _ then _ else _) M:=g1
    split at g1
    ·rename_i hl
     exact⟨_,_,rfl,SqT.of a,by rw[c.len];exact hl,ρ,δ,M,_,ev,j,c,g1⟩
    ·obtain⟨r,e,_⟩:=g1;cases e
  |_=>obtain⟨r,e,_⟩:=g1;cases e⟩
def iR:D->D->D->DM Unit
 | .ref n,.int k,v=>fun M=>match M[n]? with
   |some (.lst l)=>match ixN l.length k with
     |some j=>some (.ok (),M.set n (.lst (l.set j v)))
     |none=>none
   |_=>none
 |_,_,_=>stuck
def Hk(mg:Str->Option Value)(E:XK)(gs:D->D->D->DM Unit):TSet:=fun o i v H Q=>∃ρ M dO di dv,J mg ρ M H∧Cv mg ρ H o dO∧Cv mg ρ H i di∧Cv mg ρ H v dv∧Go mg E (fun _ _ (_:Unit) (_:Unit)=>True) (fun _ H'=>Q H') ρ H (gs dO di dv) M
theorem lZ:PSet X (Hk X.mg E iR):=by
 intro pins s σ H o i v ov iv u Q I ro ri rv h
 obtain⟨ρ,M,dO,di,dv,j,co,ci,cv,r,e,p⟩:=h
 cases co with
 | ref hn=>
   cases ci with
   | int k=>
     rename_i n a
     have e:(match M[n]? with
      |some (.lst l)=>match ixN l.length k with
        |some j=>some (R.ok (),M.set n (.lst (l.set j dv)))
        |none=>none
      |_=>none)=some r:=e
     split at e
     ·rename_i l hl
      split at e
      ·rename_i q hq
       cases e
       obtain⟨xs,hx,c⟩:=j.obj _ _ _ hn hl
       have x:Ext ρ H ρ (upd H a (.lst (xs.set q v))):=.upd (List.mem_of_getElem? hn)
       exact set_list (X:=X) pins s σ H _ _ v ov iv u Q I ro ri rv ⟨_,_,_,q,rfl,rfl,hx,by rw[c.len];exact hq,p ρ _ () x (j.upd hn ⟨_,upd_same,(c.set cv q).mono x⟩) trivial⟩
      ·cases e
     ·cases e
   |_=>cases e
 |_=>cases e
theorem kj (ho:DE X E o fo) (hi:DE X E i fi) (hs:PSet X (Hk X.mg E gs))
  (ha:∀v,assign (.Subscript o i pos) X.env v=(do
    let ov ←holding [v] (eval o X.env)
    let iv ←holding [v,ov] (eval i X.env)
    standAt pos
    holding [v,ov,iv] (setItem ov iv v)
    release [v,ov,iv] []):=by intro _;rfl):DG X E (.Subscript o i pos) (fun d δ=>fo δ>>=fun o=>fi δ>>=fun i=>gs o i d>>=fun _=>pure δ):=
 ⟨PG.mono (pg_sub ho.h hi.h hs ha) fun v σ H Q h=>by
  obtain⟨ρ,δ,M,d,ev,j,c,g1⟩:=h
  exact⟨ρ,δ,M,ev,j,g1.bind fun ρ1 H1 M1 x dx e1 j1 c1 g2=>⟨ρ1,δ,M1,ev.mono e1,j1,g2.bind fun ρ2 H2 M2 y dy e2 j2 c2 g3=>⟨ρ2,M2,dx,dy,d,j2,c1.mono e2,c2,(c.mono e1).mono e2,g3.bind fun ρ3 H3 M3 _ _ e3 j3 _ g4=>g4.pure ρ3 H3 σ .refl j3 (((ev.mono e1).mono e2).mono e3)⟩⟩⟩⟩
theorem b8(he:DE X E e fe)(hg:DG X E tg fg)(hs:swapsWithSole [tg] e pos.line X.env=pure false:=by rfl)(hw:swappedStores [tg] e X.env=pure none:=by rfl)
  (h1:(assignEach [tg] X.env).map (·.2)=[assign tg X.env]:=by rfl):DS X E (.Assign [tg] e pos) (fun δ=>fe δ>>=fun d=>fg d δ>>=fun δ'=>pure (.nx δ')):=⟨PS.mono (ps_asg he.h hg.h hs hw h1) fun D σ H h=>by
 obtain⟨ρ,δ,M,ev,j,g1⟩:=h
 exact⟨ρ,δ,M,ev,j,g1.bind fun ρ1 H1 M1 v d e1 j1 c1 g2=>⟨ρ1,δ,M1,d,ev.mono e1,j1,c1,g2.bind fun ρ2 H2 M2 σ2 δ2 e2 j2 ev2 g3=>g3.pure ρ2 H2 σ2 .refl j2 ev2⟩⟩⟩
def sJ(i j:Nat)(fa:ao->DM (List D)):ao->DM Fl:=fun δ=>fa δ>>=fun l=>match l with
 |[v,w]=>pure (.nx ((δ.set i (some v)).set j (some w)))
 |_=>stuck
theorem xn {kt k2 pt2} (hc:X.calm=true) (hN:X.N.Nodup) (hi:X.N[i]?=some x) (hj:X.N[j]?=some y) (hij:i≠j)
  (hx:X.env.scope.names.lookup x=some .local) (hy:X.env.scope.names.lookup y=some .local) (ha:DA X E [a,b] fa)
  (hw:swappedStores [.Tuple [.Name x px,.Name y py] kt pt] (.Tuple [a,b] k2 pt2) X.env=pure (some [x,y]))
  (hs:swapsWithSole [.Tuple [.Name x px,.Name y py] kt pt] (.Tuple [a,b] k2 pt2) pos.line X.env=pure false:=by rfl) :
  DS X E (.Assign [.Tuple [.Name x px,.Name y py] kt pt] (.Tuple [a,b] k2 pt2) pos) (sJ i j fa):=⟨PS.mono (ps_par hc hN hi hj hij hx hy ha.h.h hw hs) fun D σ H h=>by
 obtain⟨ρ,δ,M,ev,j,g1⟩:=h
 refine⟨ρ,δ,M,ev,j,bB.bind g1 fun ρ1 H1 M1 v d e1 j1 c1 g2=>?_⟩
 cases c1 with
 |nil=>obtain⟨r,e,_⟩:=g2;cases e
 | cons c1 c2=>cases c2 with
   |nil=>obtain⟨r,e,_⟩:=g2;cases e
   |cons c2 c3=>cases c3 with
     |nil=>exact⟨_,_,rfl,bB.pure (a:=.nx _) g2 ρ1 H1 _ .refl j1 (((ev.mono e1).set c1).set c2)⟩
     |cons _ _=>obtain⟨r,e,_⟩:=g2;cases e⟩
theorem Gr:bW X E (inplaceOp .Add) (fun x y=>rd (dG (fun _ _=>true) (fun i j=>.int (i+j)) x y)):=sI iop_add
theorem xV:bW X E (inplaceOp .Sub) (fun x y=>rd (o4 x y)):=sI iop_sub
end
inductive Itn where
 |fix (l:List D) | dyn (n:Nat)
def Itn.next:Itn->Nat->Mo->Option (Option D)
 |.fix l,i,_=>some l[i]?
 |.dyn n,i,M=>match M[n]? with
   |some (.lst l)=>some l[i]?
   |_=>none
structure ItOk(mg:Str->Option Value)(ρ:Rh)(H:Hp)(Jt:It)(it:Itn):Prop where
 item:∀(i:Nat) ρ' H' M' d,Kp ρ H ρ' H'->J mg ρ' M' H'->it.next i M'=some (some d)->Jt.go i H'∧∀x H2,Jt.yld i H' x H2->Ext ρ' H' ρ' H2∧J mg ρ' M' H2∧Cv mg ρ' H2 x d
 stop:∀(i:Nat) ρ' H' M',Kp ρ H ρ' H'->J mg ρ' M' H'->it.next i M'=some none->Jt.stop i H'
def tI(mg:Str->Option Value)(E:XK)(fi:ao->DM Itn):TI:=fun σ H R=>tD mg E (ItOk mg) fi σ H R
structure DI(X:Cx)(E:XK)(tg it:Expr)(fi:ao->DM Itn):Prop where
 h:PI X tg it (tI X.mg E fi)
theorem PI.mono(h:PI X tg e t)(f:∀σ H Q,t' σ H Q->t σ H Q):PI X tg e t':=fun pins s σ H Q I q=>h pins s σ H Q I (f σ H Q q)
theorem Jy{K:PySem.W.Frag}{mg:Str->Option Value}{ρ:Rh}{H:Hp}{a:Addr}{xs:List V}{ds:List D}(n:a∉ρ)(h:H a=some (.lst xs))(c:Cvs mg ρ H xs ds):ItOk mg ρ H (Itl K a) (.fix ds) where
 item:=fun i ρ' H' M' d e j q=>by
  have hq:ds[i]?=some d:=Option.some.inj q
  obtain⟨v,hv,cv⟩:=c.get hq
  have h':=(e.keep _ _ h n).2
  refine⟨⟨xs,v,SqL.of h',hv⟩,fun x H2 y=>?_⟩
  obtain⟨rfl,y⟩:=y
  have:=y xs (SqL.of h')
  rw[hv] at this;cases this
  exact⟨.refl,j,cv.kp e⟩
 stop:=fun i ρ' H' M' e j q=>by
  have hq:ds[i]?=none:=Option.some.inj q
  exact⟨xs,SqL.of (e.keep _ _ h n).2,by rw[c.len];exact List.getElem?_eq_none_iff.mp hq⟩
theorem Jz{K:PySem.W.Frag}{mg:Str->Option Value}{ρ:Rh}{H:Hp}{a:Addr}{xs:List V}{ds:List D}(n:a∉ρ)(h:H a=some (.tup xs))(c:Cvs mg ρ H xs ds):ItOk mg ρ H (Itt K a) (.fix ds) where
 item:=fun i ρ' H' M' d e j q=>by
  have hq:ds[i]?=some d:=Option.some.inj q
  obtain⟨v,hv,cv⟩:=c.get hq
  have h':=(e.keep _ _ h n).2
  refine⟨⟨xs,v,SqT.of h',hv⟩,fun x H2 y=>?_⟩
  obtain⟨rfl,y⟩:=y
  have:=y xs (SqT.of h')
  rw[hv] at this;cases this
  exact⟨.refl,j,cv.kp e⟩
 stop:=fun i ρ' H' M' e j q=>by
  have hq:ds[i]?=none:=Option.some.inj q
  exact⟨xs,SqT.of (e.keep _ _ h n).2,by rw[c.len];exact List.getElem?_eq_none_iff.mp hq⟩
theorem Jx {K:PySem.W.Frag}{mg:Str->Option Value}{ρ:Rh}{H:Hp}{a:Addr}{n:Nat} (h:ρ.st[n]?=some a):ItOk mg ρ H (Itl K a) (.dyn n) where
 item:=fun i ρ' H' M' d e j q=>by
  have h':=e.at h
  unfold Itn.next at q
  dsimp only at q
  split at q
  ·rename_i l hl
   obtain⟨xs,hx,c⟩:=j.obj n a _ h' hl
   have hq:l[i]?=some d:=Option.some.inj q
   obtain⟨v,hv,cv⟩:=c.get hq
   refine⟨⟨xs,v,SqL.of hx,hv⟩,fun x H2 y=>?_⟩
   obtain⟨rfl,y⟩:=y
   have:=y xs (SqL.of hx)
   rw[hv] at this;cases this
   exact⟨.refl,j,cv⟩
  ·cases q
 stop:=fun i ρ' H' M' e j q=>by
  have h':=e.at h
  unfold Itn.next at q
  dsimp only at q
  split at q
  ·rename_i l hl
   obtain⟨xs,hx,c⟩:=j.obj n a _ h' hl
   have hq:l[i]?=none:=Option.some.inj q
   exact⟨xs,SqL.of hx,by rw[c.len];exact List.getElem?_eq_none_iff.mp hq⟩
  ·cases q
def oJ(lo:Int)(n:Nat):List D:=(List.range n).map fun i=>.int (lo+(i:Nat))
theorem zW{lo:Int}{n i:Nat}:(oJ lo n)[i]?=if i<n then some (.int (lo+(i:Nat))) else none:=by
 unfold oJ
 rw[List.getElem?_map]
 by_cases h:i<n
 ·rw[if_pos h,List.getElem?_range h];rfl
 ·rw[if_neg h,List.getElem?_eq_none_iff.mpr (by simp;lia)];rfl
theorem Dc {mg:Str->Option Value}{lo:Int}{n:Nat}:ItOk mg ρ H (Itr lo n) (.fix (oJ lo n)) where
 item:=fun i ρ' H' M' d e j q=>by
  have hq:(oJ lo n)[i]?=some d:=Option.some.inj q
  rw[zW] at hq
  split at hq
  ·rename_i h
   cases hq
   refine⟨h,fun x H2 y=>?_⟩
   obtain⟨rfl,rfl⟩:=y
   exact⟨.refl,j,.int _⟩
  ·cases hq
 stop:=fun i ρ' H' M' e j q=>by
  have hq:(oJ lo n)[i]?=none:=Option.some.inj q
  rw[zW] at hq
  split at hq
  ·cases hq
  ·rename_i h;exact Nat.not_lt.mp h
section
variable{X:Cx}{E:XK}{tg:Expr}
def oK(i:Int):Bool:=decide (-(2^62)≤i∧i<2^62)
def fU:List D->Option Itn
 |[.int j]=>if oK j then some (.fix (oJ 0 j.toNat)) else none
 |_=>none
def uW:List D->Option Itn
 |[.int i,.int j]=>if oK i&&oK j then some (.fix (oJ i (j-i).toNat)) else none
 |_=>none
theorem bu (hg:Gl X "range") (hm:X.mg "range"=none) (ha:DA X E [a] fa) (hs:notStar a=true:=by rfl):DI X E tg (.Call (.Name "range" p) [a] [] pos) (fun δ=>fa δ >>= fun l=>opt (fU l)):=
 ⟨PI.mono (Bf hg hm ha.h hs).h fun σ H R h=>by
  obtain⟨ρ,δ,M,ev,j,g1⟩:=h
  refine⟨ρ,δ,M,ev,j,g1.bind fun ρ1 H1 M1 x dx e1 j1 c1 g2=>?_⟩
  obtain⟨it,e,q⟩:=g2.opt
  unfold fU at e
  split at e
  ·split at e
   ·rename_i hk
    cases e
    cases c1 with | cons c1 c2=>
    cases c2;cases c1
    have hk:=of_decide_eq_true hk
    exact⟨_,rfl,hk.1,hk.2,q ρ1 H1 _ .refl j1 Dc⟩
   ·cases e
  ·cases e⟩
theorem CK (hg:Gl X "range") (hm:X.mg "range"=none) (ha:DA X E [a,b] fa) (hs:notStar a=true:=by rfl) (hs2:notStar b=true:=by rfl):DI X E tg (.Call (.Name "range" p) [a,b] [] pos) (fun δ=>fa δ >>= fun l=>opt (uW l)):=
 ⟨PI.mono (Bg hg hm ha.h hs hs2).h fun σ H R h=>by
  obtain⟨ρ,δ,M,ev,j,g1⟩:=h
  refine⟨ρ,δ,M,ev,j,g1.bind fun ρ1 H1 M1 x dx e1 j1 c1 g2=>?_⟩
  obtain⟨it,e,q⟩:=g2.opt
  unfold uW at e
  split at e
  ·split at e
   ·rename_i hk
    cases e
    cases c1 with | cons c1 c2=>cases c2 with | cons c2 c3=>
    cases c3;cases c1;cases c2
    have hk:=(Bool.and_eq_true _ _).mp hk
    have h1:=of_decide_eq_true hk.1
    have h2:=of_decide_eq_true hk.2
    exact⟨_,_,rfl,⟨h1.1,h1.2,h2.1,h2.2⟩,q ρ1 H1 _ .refl j1 Dc⟩
   ·cases e
  ·cases e⟩
def jV:D->Option Itn
 |.tup l=>some (.fix l)
 |_=>none
def o9:D->Mo->Option Itn
 |.lst l,_=>some (.fix l)
 |.ref n,M=>match M[n]? with
   |some (.lst _)=>some (.dyn n)
   |_=>none
 |_,_=>none
theorem bO(hl:DE X E l fl):DI X E tg l (fun δ=>fl δ>>=fun d=>opt (jV d)):=⟨PI.mono (pi_tup hl.h) fun σ H R h=>by
 obtain⟨ρ,δ,M,ev,j,g1⟩:=h
 refine⟨ρ,δ,M,ev,j,g1.bind fun ρ1 H1 M1 x dx e1 j1 c1 g2=>?_⟩
 obtain⟨it,e,q⟩:=g2.opt
 unfold jV at e
 split at e
 ·cases e
  cases c1 with | tup n a c=>
  exact⟨_,rfl,⟨_,SqT.of a⟩,q ρ1 H1 _ .refl j1 (Jz n a c)⟩
 ·cases e⟩
theorem fj (hl:DE X E l fl):DI X E tg l (fun δ=>fl δ >>= fun d=>rd (o9 d)):=⟨PI.mono (pi_list hl.h) fun σ H R h=>by
 obtain⟨ρ,δ,M,ev,j,g1⟩:=h
 refine⟨ρ,δ,M,ev,j,g1.bind fun ρ1 H1 M1 x dx e1 j1 c1 g2=>?_⟩
 obtain⟨it,e,q⟩:=g2.rd
 unfold o9 at e
 split at e
 ·cases e
  cases c1 with | lst n a c=>
  exact⟨_,rfl,⟨_,SqL.of a⟩,q ρ1 H1 _ .refl j1 (Jy n a c)⟩
 ·split at e
  ·rename_i l' hl'
   cases e
   cases c1 with | ref hn=>
   obtain⟨xs,hx,_⟩:=j1.obj _ _ _ hn hl'
   exact⟨_,rfl,⟨xs,SqL.of hx⟩,q ρ1 H1 _ .refl j1 (Jx hn)⟩
  ·cases e
 ·cases e⟩
end
def forL (tg:D->ao->DM ao) (fb:ao->DM Fl):List D->ao->DM Fl
 |[],δ=>pure (.nx δ)
 |d::l,δ=>tg d δ>>=fun δ1=>fb δ1>>=fun r=>match r with
   |.nx δ2=>forL tg fb l δ2
   |.ct δ2=>forL tg fb l δ2
   |.bk δ2=>pure (.nx δ2)
   |.rt d=>pure (.rt d)
def xG (tg:D->ao->DM ao) (fb:ao->DM Fl) (n:Nat):Nat->Nat->ao->DM Fl
 |0,_,_=>stuck
 | k + 1,i,δ=>rd (Itn.next (.dyn n) i) >>= fun o=>match o with
   |none=>pure (.nx δ)
   |some d=>tg d δ>>=fun δ1=>fb δ1>>=fun r=>match r with
     |.nx δ2=>xG tg fb n k (i+1) δ2
     |.ct δ2=>xG tg fb n k (i+1) δ2
     |.bk δ2=>pure (.nx δ2)
     |.rt d=>pure (.rt d)
def my(N:Nat)(tg:D->ao->DM ao)(fb:ao->DM Fl):Itn->ao->DM Fl
 |.fix l=>forL tg fb l
 |.dyn n=>xG tg fb n N 0
theorem bB.rdb{mg:Str->Option Value}{E:XK}{D:Ends}{ρ:Rh}{H:Hp}{M:Mo}{γ:Type}{f:Mo->Option γ}{k:γ->DM Fl}(g:bB mg E D ρ H (L3.rd f>>=k) M):∃a,f M=some a∧bB mg E D ρ H (k a) M:=by
 obtain⟨r,e,p⟩:=g
 have e:DM.bind _ _ M=some r:=e
 unfold DM.bind L3.rd at e
 cases h:f M with
 |none=>rw[h] at e;cases e
 |some a=>rw[h] at e;exact⟨a,rfl,r,e,p⟩
theorem xJ {X:Cx}{E:XK}{fg:D->ao->DM ao}{fb:ao->DM Fl}{D:Ends}{σ:L2.St}{H H':Hp}{ρ:Rh}{δ:ao}{M:Mo}{x:V}{d:L3.D}{N:L2.St->Hp->Prop}{again:ao->DM Fl}
  (ev:Ev X.mg ρ H σ δ) (e1:Ext ρ H ρ H') (j1:J X.mg ρ M H') (c1:Cv X.mg ρ H' x d) (ht:bB X.mg E D ρ H (fg d δ>>=fun δ1=>fb δ1>>=fun r=>match r with
    |.nx δ2=>again δ2
    |.ct δ2=>again δ2
    |.bk δ2=>pure (.nx δ2)
    |.rt d=>pure (.rt d)) M) (hN:∀ρ2 δ2 M2 σ2 H2,Ext ρ H ρ2 H2->Ev X.mg ρ2 H2 σ2 δ2->J X.mg ρ2 M2 H2->bB X.mg E D ρ2 H2 (again δ2) M2->N σ2 H2) :
  tG X.mg E fg x σ H' fun σ2 H2=>tS X.mg E fb { D with nx:=N,ct:=N,bk:=D.nx } σ2 H2:=by
 obtain⟨r,er,p⟩:=ht
 have ht':bB X.mg E D ρ H' _ M:=⟨r,er,p.mono e1⟩
 refine⟨ρ,δ,M,d,ev.mono e1,j1,c1,bB.bind ht' fun ρ2 H2 M2 σ2 δ2 e2 j2 ev2 g2=>⟨ρ2,δ2,M2,ev2,j2,g2.seq (fun δ' ρ3 H3 M3 σ3 e3 j3 ev3 g3=>?_) (fun δ' ρ3 H3 M3 σ3 e3 j3 ev3 g3=>?_) (fun δ' ρ3 H3 M3 σ3 e3 j3 ev3 g3=>?_) (fun d' ρ3 H3 M3 v e3 j3 c3 g3=>?_)⟩⟩
 ·exact hN ρ3 δ' M3 σ3 H3 ((e1.trans e2).trans e3) ev3 j3 g3
 ·exact bB.pure (a:=.nx δ') g3 ρ3 H3 σ3 .refl j3 ev3
 ·exact hN ρ3 δ' M3 σ3 H3 ((e1.trans e2).trans e3) ev3 j3 g3
 ·exact bB.pure (a:=.rt d') g3 ρ3 H3 v .refl j3 c3
theorem cY {body:List Stmt}{fi:ao->DM Itn}{fg:D->ao->DM ao}{fb:ao->DM Fl} (N:Nat) (hp:PassesOwn (model X.prog X.w) X.A X.env X.xe) (hc:X.calm=true) (hi:DI X E tg iter fi) (hg:DG X E tg fg) (hb:DSs X E body fb)
  (hs:∀x,foldedSetIterable iter X.env x=pure x:=by intro _;rfl):DS X E (.For tg iter body [] pos) (fun δ=>fi δ>>=fun it=>my N fg fb it δ):=⟨PS.mono (ps_for hp hc hi.h hg.h hb.h hs) fun D σ H h=>by
 obtain⟨ρ,δ,M,ev,j,g1⟩:=h
 refine⟨ρ,δ,M,ev,j,g1.bind fun ρ1 H1 M1 Jt it e1 j1 iok g2=>?_⟩
 cases it with
 | fix l=>
   refine⟨fun i m σ H=>∃ρ' δ' M',Ext ρ1 H1 ρ' H∧Ev X.mg ρ' H σ δ'∧J X.mg ρ' M' H∧m=(l.drop i).length∧bB X.mg E D ρ' H (forL fg fb (l.drop i) δ') M',⟨_,ρ1,δ,M1,.refl,ev.mono e1,j1,rfl,g2⟩,?_⟩
   rintro i m σ2 H2 ⟨ρ2,δ2,M2,e2,ev2,j2,rfl,g3⟩
   cases hd:l[i]? with
   |none=>
     have hl:l.drop i=[]:=List.drop_eq_nil_of_le (List.getElem?_eq_none_iff.mp hd)
     rw[hl] at g3
     exact .inl ⟨iok.stop i ρ2 H2 M2 e2.kp j2 (congrArg some hd),bB.pure (a:=.nx δ2) g3 ρ2 H2 σ2 .refl j2 ev2⟩
   |some d=>
     obtain⟨hi',hd'⟩:=List.getElem?_eq_some_iff.mp hd
     have hl:l.drop i=d::l.drop (i+1):=by rw[←hd'];exact List.drop_eq_getElem_cons hi'
     obtain⟨go,yl⟩:=iok.item i ρ2 H2 M2 d e2.kp j2 (congrArg some hd)
     rw[hl] at g3
     refine .inr ⟨go,fun σ' H'=>∃ρ' δ' M',Ext ρ1 H1 ρ' H'∧Ev X.mg ρ' H' σ' δ'∧J X.mg ρ' M' H'∧bB X.mg E D ρ' H' (forL fg fb (l.drop (i+1)) δ') M',fun σ' H' ⟨ρ',δ',M',a1,a2,a3,a4⟩=>⟨_,by rw[List.length_drop,List.length_drop];lia,ρ',δ',M',a1,a2,a3,rfl,a4⟩,fun x H' y=>?_⟩
     obtain⟨x1,x2,x3⟩:=yl x H' y
     exact xJ ev2 x1 x2 x3 g3 fun ρ3 δ3 M3 σ3 H3 f1 f2 f3 f4=>⟨ρ3,δ3,M3,e2.trans f1,f2,f3,f4⟩
 | dyn n=>
   refine⟨fun i m σ H=>∃ρ' δ' M',Ext ρ1 H1 ρ' H∧Ev X.mg ρ' H σ δ'∧J X.mg ρ' M' H∧bB X.mg E D ρ' H (xG fg fb n m i δ') M',⟨N,ρ1,δ,M1,.refl,ev.mono e1,j1,g2⟩,?_⟩
   rintro i m σ2 H2 ⟨ρ2,δ2,M2,e2,ev2,j2,g3⟩
   cases m with
   |zero=>obtain⟨r,e,_⟩:=g3;cases e
   | succ m=>
     obtain⟨o,eo,g4⟩:=bB.rdb g3
     cases o with
     |none=>exact .inl ⟨iok.stop i ρ2 H2 M2 e2.kp j2 eo,bB.pure (a:=.nx δ2) g4 ρ2 H2 σ2 .refl j2 ev2⟩
     |some d=>
       obtain⟨go,yl⟩:=iok.item i ρ2 H2 M2 d e2.kp j2 eo
       refine .inr ⟨go,fun σ' H'=>∃ρ' δ' M',Ext ρ1 H1 ρ' H'∧Ev X.mg ρ' H' σ' δ'∧J X.mg ρ' M' H'∧bB X.mg E D ρ' H' (xG fg fb n m (i+1) δ') M',fun σ' H' z=>⟨m,Nat.lt_succ_self _,z⟩,fun x H' y=>?_⟩
       obtain⟨x1,x2,x3⟩:=yl x H' y
       exact xJ ev2 x1 x2 x3 g4 fun ρ3 δ3 M3 σ3 H3 f1 f2 f3 f4=>⟨ρ3,δ3,M3,e2.trans f1,f2,f3,f4⟩⟩
def ji (c:ao->DM Bool) (fb:ao->DM Fl):Nat->ao->DM Fl
 |0,_=>stuck
 | k + 1,δ=>c δ >>= fun b=>if b then (fb δ >>= fun r=>match r with
     |.nx δ2=>ji c fb k δ2
     |.ct δ2=>ji c fb k δ2
     |.bk δ2=>pure (.nx δ2)
     |.rt d=>pure (.rt d)) else pure (.nx δ)
theorem xr (N:Nat) (hp:PassesOwn (model X.prog X.w) X.A X.env X.xe) (hc:DT X E c fc) (hb:DSs X E body fb):DS X E (.While c body [] pos) (ji fc fb N):=⟨PS.mono (L2.ps_while hp hc.h hb.h) fun D σ H h=>by
 obtain⟨ρ,δ,M,ev,j,g1⟩:=h
 refine⟨fun m σ H=>∃ρ' δ' M',Ev X.mg ρ' H σ δ'∧J X.mg ρ' M' H∧bB X.mg E D ρ' H (ji fc fb m δ') M',⟨N,ρ,δ,M,ev,j,g1⟩,?_⟩
 rintro m σ2 H2 ⟨ρ2,δ2,M2,ev2,j2,g3⟩
 cases m with
 |zero=>obtain⟨r,e,_⟩:=g3;cases e
 | succ m=>
   refine⟨ρ2,δ2,M2,ev2,j2,bB.bind g3 fun ρ3 H3 M3 b b' e3 j3 cb g4=>?_⟩
   have cb:b=b':=cb
   subst cb
   cases b with
   |true=>
     refine iteT ⟨fun σ' H'=>∃ρ' δ' M',Ev X.mg ρ' H' σ' δ'∧J X.mg ρ' M' H'∧bB X.mg E D ρ' H' (ji fc fb m δ') M',fun σ' H' z=>⟨m,Nat.lt_succ_self _,z⟩,ρ3,δ2,M3,ev2.mono e3,j3,?_⟩
     refine bB.seq g4 (fun δ' ρ4 H4 M4 σ4 e4 j4 ev4 g5=>⟨ρ4,δ',M4,ev4,j4,g5⟩) (fun δ' ρ4 H4 M4 σ4 e4 j4 ev4 g5=>?_) (fun δ' ρ4 H4 M4 σ4 e4 j4 ev4 g5=>⟨ρ4,δ',M4,ev4,j4,g5⟩) (fun d' ρ4 H4 M4 v e4 j4 c4 g5=>?_)
     ·exact bB.pure (a:=.nx δ') g5 ρ4 H4 σ4 .refl j4 ev4
     ·exact bB.pure (a:=.rt d') g5 ρ4 H4 v .refl j4 c4
   |false=>exact iteF (bB.pure (a:=.nx δ2) g4 ρ3 H3 σ2 .refl j3 (ev2.mono e3))⟩
def KZ(mg:Str->Option Value)(F:List D->DM D):Sp:=fun vs H Q E=>∃ρ M ds,Cvs mg ρ H vs ds∧J mg ρ M H∧Go mg E (Cv mg) Q ρ H (F ds) M
structure DefD(P:Program)(w:World)(K:PySem.W.Frag)(mg:Str->Option Value)(base:Heap)(k:Nat)(x:Str)(ps:List Str)(F:List D->DM D):Prop where
 h:DefC P w K mg base k x ps (KZ mg F)
def dI(n:Nat)(ds:List D):ao:=ds.map some++List.replicate (n-ds.length) none
def aL(p n:Nat)(fb:ao->DM Fl)(ds:List D):DM D:=if ds.length=p then fb (dI n ds)>>=fun r=>match r with
 |.nx _=>pure .non
 |.rt d=>pure d
 |_=>stuck else stuck
theorem rZ(c:Cvs mg ρ H vs ds):Ev mg ρ H (L2.start N vs) (dI N.length ds):=by
 unfold L2.start dI
 refine⟨by simp[c.len],fun i d q=>?_⟩
 by_cases hi:i<ds.length
 ·rw[List.getElem?_append_left (by rw[List.length_map];exact hi),List.getElem?_map] at q
  obtain⟨d',h1,h2⟩:=Option.map_eq_some_iff.mp q
  cases h2
  obtain⟨v,hv,cv⟩:=c.get h1
  exact⟨v,by rw[List.getElem?_append_left (by rw[List.length_map,c.len];exact hi),List.getElem?_map,hv];rfl,cv⟩
 ·rw[List.getElem?_append_right (by rw[List.length_map];lia),List.getElem?_replicate] at q
  split at q<;>cases q
section
variable{P:Program}{w:World}{K:PySem.W.Frag}{mg:Str->Option Value}{base:Heap}{k:Nat}{x:Str}{N ps:List Str}{st:Stmt}
theorem bB.aL(g:Go mg E (Cv mg) Q ρ H (L3.aL p n fb ds) M):ds.length=p∧bB mg E { nx:=fun _ H'=>Q .non H',rt:=Q } ρ H (fb (dI n ds)) M:=by
 obtain⟨r,e,p⟩:=g
 unfold L3.aL at e
 split at e
 rotate_left
 ·cases e
 rename_i hl
 refine⟨hl,?_⟩
 have e:DM.bind _ _ M=some r:=e
 unfold DM.bind at e
 split at e
 ·cases e
 ·rename_i c M' em
  cases e
  exact⟨_,em,p⟩
 ·rename_i a M' em
  refine⟨_,em,?_⟩
  cases a with
  |nx δ'=>cases e;exact fun ρ1 H1 b x j c=>p ρ1 H1 .non x j .non
  |rt d=>cases e;exact fun ρ1 H1 b x j c=>p ρ1 H1 b x j c
  |bk δ'=>cases e
  |ct δ'=>cases e
theorem DefAt.okD (D:DefAt K mg x st) (S:FnScope N ps (defScope st)) (hb:∀ (kV doc pm:Value) (an:Option Addr) (cdv ct:Value) (us:List Value),us.length=ps.length->bindArgs (PySem.W.fnOf x x (defArgs st) (defBody st) (defScope st) .none kV doc pm an cdv ct) ⟨us,[]⟩=pure (ps.zip us))
  (hbody:∀(f:Addr) (cdv:Value) (A:Around) (outer:List Env) (s:Shared) (H:Hp) (E:XK),Room k (A.deeper (envOfC x (defScope st) s.heap.objs.size f cdv))->
    DSs (cB P w K mg base N x (defScope st) f cdv A outer s H E) E (defBody st) fb):DefD P w K mg base (k+1) x ps (aL ps.length N.length fb):=⟨by
 refine D.okE S hb (fun vs H Q E h=>?_) fun f cdv A outer s H vs Q E hr h=>?_
 ·obtain⟨ρ,M,ds,c,j,g⟩:=h
  rw[c.len];exact (bB.aL g).1
 obtain⟨ρ,M,ds,c,j,g⟩:=h
 exact⟨_,(hbody f cdv A outer s H E hr).h,ρ,_,M,rZ c,j,(bB.aL g).2⟩⟩
theorem DefAt.okN {F:List D->DM D}{fb:Nat->ao->DM Fl} (D:DefAt K mg x st) (S:FnScope N ps (defScope st)) (hb:∀ (kV doc pm:Value) (an:Option Addr) (cdv ct:Value) (us:List Value),us.length=ps.length->bindArgs (PySem.W.fnOf x x (defArgs st) (defBody st) (defScope st) .none kV doc pm an cdv ct) ⟨us,[]⟩=pure (ps.zip us))
  (hf:∀ds M r,F ds M=some r->∃n,aL ps.length N.length (fb n) ds M=some r)
  (hbody:∀(n:Nat) (f:Addr) (cdv:Value) (A:Around) (outer:List Env) (s:Shared) (H:Hp) (E:XK),Room k (A.deeper (envOfC x (defScope st) s.heap.objs.size f cdv))->
    DSs (cB P w K mg base N x (defScope st) f cdv A outer s H E) E (defBody st) (fb n)):DefD P w K mg base (k+1) x ps F:=⟨by
 refine D.okE S hb (fun vs H Q E h=>?_) fun f cdv A outer s H vs Q E hr h=>?_
 ·obtain⟨ρ,M,ds,c,j,r,e,p⟩:=h
  obtain⟨n,e2⟩:=hf ds M r e
  rw[c.len];exact (bB.aL ⟨r,e2,p⟩).1
 obtain⟨ρ,M,ds,c,j,r,e,p⟩:=h
 obtain⟨n,e2⟩:=hf ds M r e
 exact⟨_,(hbody n f cdv A outer s H E hr).h,ρ,_,M,rZ c,j,(bB.aL ⟨r,e2,p⟩).2⟩⟩
end
section
variable{mg:Str->Option Value}{ρ ρ':Rh}{H:Hp}{M:Mo}{k:Nat}
structure Sub(ρ ρ':Rh)(k:Nat):Prop where
 st:∃τ,ρ'.st=ρ.st++τ
 vo:ρ'.vo=ρ.vo
 len:ρ.st.length=k
end
section
variable{X:Cx}{E:XK}{j k:Nat}{ps:List Str}{F:List D->DM D}{x:Str}{p pos:Pos}{e:Expr}{es:List Expr}{fs:ao->DM (List D)}
theorem aB(D:DefD X.prog X.w X.K X.mg X.base j x ps F)(hr:Room k X.A)(hx:Passes (mO X.prog X.w) X E)(ha:DA X E (e::es) fs)(hjk:j≤k:=by decide)(hg:Gl X x:=by rfl)(hdb:(x==("__debug__":Str))=false:=by decide)
  (he:notStar e=true:=by rfl) (hpl:(backTo pos (starEach es X.env)).any (·.1)=false:=by rfl) :
  DE X E (.Call (.Name x p) (e::es) [] pos) (fun δ=>fs δ>>=F):=⟨PE.mono (Dy D.h hr hx ha.h hjk hg hdb he hpl) fun σ H Q h=>by
 obtain⟨ρ,δ,M,ev,j,g1⟩:=h
 refine⟨ρ,δ,M,ev,j,g1.bind fun ρ1 H1 M1 xs dxs e1 j1 c1 g2=>?_⟩
 rw[List.append_nil]
 exact⟨ρ1,M1,dxs,c1,j1,g2⟩⟩
def rC(mg:Str->Option Value)(E:XK)(g:List D->DM D):List V->Hp->VK->Prop:=fun vs H Q=>∃ρ M ds,J mg ρ M H∧Cvs mg ρ H vs ds∧Go mg E (Cv mg) Q ρ H (g ds) M
def CallD(X:Cx)(E:XK)(f:Value)(g:List D->DM D):Prop:=CallR X f (rC X.mg E g)
theorem aJ{id:String}{g:List D->DM D}(hc:CallD X E (.builtin id) g)(hm:X.mg x=none)(ha:DA X E (e::es) fs)(hg:Gl X x:=by rfl)(hv:bootBuiltins x=some (.builtin id):=by decide +kernel)(hn:x≠"__name__":=by decide)(hdb:(x==("__debug__":Str))=false:=by decide)
  (he:notStar e=true:=by rfl) (hpl:(backTo pos (starEach es X.env)).any (·.1)=false:=by rfl) :
  DE X E (.Call (.Name x p) (e::es) [] pos) (fun δ=>fs δ>>=g):=⟨PE.mono (Lx hc hm ha.h hg hv hn hdb he hpl) fun σ H Q h=>by
 obtain⟨ρ,δ,M,ev,j,g1⟩:=h
 exact⟨ρ,δ,M,ev,j,g1.bind fun ρ1 H1 M1 xs dxs e1 j1 c1 g2=>⟨ρ1,M1,dxs,j1,c1,g2⟩⟩⟩
theorem bV(hc:CallD X E (.type T) g)(hm:X.mg x=none)(ha:DA X E (e::es) fs)(hg:Gl X x:=by rfl)(hv:bootBuiltins x=some (.type T):=by decide +kernel)(hn:x≠"__name__":=by decide)(hdb:(x==("__debug__":Str))=false:=by decide)
  (he:notStar e=true:=by rfl) (hpl:(backTo pos (starEach es X.env)).any (·.1)=false:=by rfl) :
  DE X E (.Call (.Name x p) (e::es) [] pos) (fun δ=>fs δ>>=g):=⟨PE.mono (Lz hc hm ha.h hg hv hn hdb he hpl) fun σ H Q h=>by
 obtain⟨ρ,δ,M,ev,j,g1⟩:=h
 exact⟨ρ,δ,M,ev,j,g1.bind fun ρ1 H1 M1 xs dxs e1 j1 c1 g2=>⟨ρ1,M1,dxs,j1,c1,g2⟩⟩⟩
theorem CallD.of{r:List V->Hp->VK->Prop}{g:List D->Mo->Option D}(hr:CallR X f r)
  (h:∀vs H Q ρ M ds d,J X.mg ρ M H->Cvs X.mg ρ H vs ds->g ds M=some d->(∀ρ' H' v,Ext ρ H ρ' H'->J X.mg ρ' M H'->Cv X.mg ρ' H' v d->Q v H')->r vs H Q):CallD X E f (fun l=>rd (g l)):=by
 intro pins s σ H vs us Q I rs q
 obtain⟨ρ,M,ds,j,c,go⟩:=q
 obtain⟨d,e,p⟩:=go.rd
 exact hr pins s σ H vs us Q I rs (h vs H Q ρ M ds d j c e p)
end
section
variable{X:Cx}{E:XK}{mg:Str->Option Value}{ρ:Rh}{H:Hp}{M:Mo}
theorem Cvs.one(c:Cvs mg ρ H vs [d]):∃v,vs=[v]∧Cv mg ρ H v d:=by
 cases c with
 |cons c c2=>cases c2;exact⟨_,rfl,c⟩
theorem Cvs.two (c:Cvs mg ρ H vs [d,e]):∃ v w,vs=[v,w]∧Cv mg ρ H v d∧Cv mg ρ H w e:=by
 cases c with
 |cons c c2=>
   obtain⟨w,rfl,k⟩:=c2.one
   exact⟨_,_,rfl,c,k⟩
def dW:List D->Mo->Option D
 |[.tup l],_=>some (.int l.length)
 |[.scr l],_=>some (.int l.length)
 |[.str x],_=>if x.length≤sizeLine then some (.int x.length) else none
 |[d],M=>(aU d M).map fun l=>.int l.length
 |_,_=>none
theorem call_lenD:CallD X E (.builtin "len") (fun l=>rd (dW l)):=CallD.of (call_len_seq.or call_len_str) fun vs H Q ρ M ds d j c e q=>by
 unfold dW at e
 split at e
 ·cases e
  obtain⟨v,rfl,k⟩:=c.one
  replace c:=k
  cases c with | tup n a c=>
  exact .inl ⟨_,_,rfl,.inr (SqT.of a),by rw[c.len];exact q ρ H _ .refl j (.int _)⟩
 ·cases e
  obtain⟨v,rfl,k⟩:=c.one
  replace c:=k
  cases c with | scr n a=>
  exact .inl ⟨_,_,rfl,.inl (.inl a),by rw[List.length_map];exact q ρ H _ .refl j (.int _)⟩
 ·split at e
  ·cases e
   obtain⟨v,rfl,k⟩:=c.one
   replace c:=k
   cases c
   exact .inr ⟨_,rfl,‹_›,q ρ H _ .refl j (.int _)⟩
  ·cases e
 ·obtain⟨l,h1,rfl⟩:=Option.map_eq_some_iff.mp e
  obtain⟨v,rfl,k⟩:=c.one
  replace c:=k
  obtain⟨a,xs,rfl,ha,c⟩:=dg j c h1
  exact .inl ⟨_,_,rfl,.inl (SqL.of ha),by rw[c.len];exact q ρ H _ .refl j (.int _)⟩
 ·cases e
def uB:List D->Mo->Option D
 |[.int i],_=>some (.int (if i<0 then -i else i))
 |_,_=>none
theorem vI:CallD X E (.builtin "abs") (fun l=>rd (uB l)):=CallD.of call_abs fun vs H Q ρ M ds d j c e q=>by
 unfold uB at e
 split at e
 ·cases e
  obtain⟨v,rfl,k⟩:=c.one
  replace c:=k
  cases c
  exact⟨_,rfl,q ρ H _ .refl j (.int _)⟩
 ·cases e
def Ba:List D->Mo->Option D
 |[.int i,.int j],_=>some (.int (if j > i then j else i))
 |_,_=>none
def wD:List D->Mo->Option D
 |[.int i,.int j],_=>some (.int (if j<i then j else i))
 |_,_=>none
theorem Ak(hc:X.calm=true):CallD X E (.builtin "max") (fun l=>rd (Ba l)):=CallD.of (call_max2 hc) fun vs H Q ρ M ds d j c e q=>by
 unfold Ba at e
 split at e
 ·cases e
  obtain⟨v,w,rfl,k,c2⟩:=c.two
  replace c:=k
  cases c;cases c2
  exact⟨_,_,rfl,q ρ H _ .refl j (.int _)⟩
 ·cases e
theorem jJ(hc:X.calm=true):CallD X E (.builtin "min") (fun l=>rd (wD l)):=CallD.of (call_min2 hc) fun vs H Q ρ M ds d j c e q=>by
 unfold wD at e
 split at e
 ·cases e
  obtain⟨v,w,rfl,k,c2⟩:=c.two
  replace c:=k
  cases c;cases c2
  exact⟨_,_,rfl,q ρ H _ .refl j (.int _)⟩
 ·cases e
def qN:D->Mo->Option (List D)
 |.tup l,_=>some l
 |d,M=>aU d M
theorem yP(j:J mg ρ M H)(c:Cv mg ρ H x d)(e:qN d M=some l):∃a xs,x=.ref a∧(H a=some (.lst xs)∨H a=some (.tup xs))∧Cvs mg ρ H xs l:=by
 unfold qN at e
 split at e
 ·cases e
  cases c with | tup n a c=>exact⟨_,_,rfl,.inr a,c⟩
 ·obtain⟨a,xs,rfl,ha,c⟩:=dg j c e
  exact⟨a,xs,rfl,.inl ha,c⟩
def intsOf:List D->Option (List Int)
 |[]=>some []
 |.int i::l=>(intsOf l).map (i::·)
 |_=>none
theorem ints_of:∀ {xs:List V}{l:List D}{ns:List Int},Cvs mg ρ H xs l->intsOf l=some ns->xs=ns.map V.int
 |_,_,_,.nil,e=>by cases e;rfl
 | _,_,_,.cons (d:=d) c cs,e=>by
   cases d with
   |int i=>
     obtain⟨ms,h1,rfl⟩:=Option.map_eq_some_iff.mp e
     cases c
     rw[ints_of cs h1];rfl
   |_=>cases e
theorem Cy (hh:X.A.handled=none):CallR X (.builtin "sum") (fun vs H Q=>∃ (l:Addr) (ns:List Int),vs=[.ref l]∧(H l=some (.lst (ns.map V.int))∨H l=some (.tup (ns.map V.int)))∧Q (.int ns.sum) H):=by
 intro pins s σ H vs us Q I r h
 obtain⟨l,ns,rfl,hH,q⟩:=h
 obtain⟨u,rfl,ru⟩:=vals1 r
 cases ru
 have fin:∀(its:List Value),IntsAre its ns->∃xs,its.toArray=intItems xs∧preSum (numAt xs) xs.size=ns.sum:=fun its hi=>by
  obtain⟨xs,hx⟩:=hi.allInts.items
  have hn:numsOf its.toArray.toList=ns:=by rw[show its.toArray.toList=its from rfl,hi.numsOf]
  rw[hx] at hn
  rw[PySem.nums_intItems] at hn
  exact⟨xs,hx,by rw[PySem.preSum_eq,List.take_of_length_le (by simp),hn]⟩
 rcases hH with hH | hH
 ·obtain ⟨its,rv,p,hz⟩:=I.list (SqL.of (K:=X.K) hH)
  obtain⟨xs,hx,hs⟩:=fin its (intsAre_of rv)
  have hl:=p.isList
  rw[hx] at hl
  obtain⟨o,ho,hc,n,hd⟩:=id hl
  have hne:l≠s.heap.objs.size:=Nat.ne_of_lt (Heap.lt_size ho)
  have hsz:(intItems xs).size=xs.size:=by simp[intItems]
  have W:=(Walks.list (prog:=X.prog) (w:=X.w) (A:=X.A.in1) hh s.heap.objs.size l hne (intItems xs)).toS
  rw[hsz] at W
  refine call_sum_walkAnyS (wpAny_pyIter_list hl ?_)
  refine⟨s.heap.objs.size,_,_,_,_,_,_,numAt xs,rfl,W,⟨⟨_,Heap.get?_push_size _ rfl,rfl,rfl⟩,hl.at fun o e=>Heap.get?_push_of_some _ e⟩,fun b hb=>?_,fun i v hP=>intItems_at hP,fun s' t' hm=>?_⟩
  ·rcases List.mem_cons.mp hb with rfl | hb
   ·exact Heap.lt_size (Heap.get?_push_size _ rfl)
   ·obtain rfl:=List.mem_singleton.mp hb
    exact Heap.lt_size (Heap.get?_push_of_some _ ho)
  ·obtain⟨h',g',d',tk',os'⟩:=s'
   have e1:g'=s.gens:=hm.gens
   have e2:d'=s.drawn:=hm.drawn
   have e3:os'=s.os:=hm.os
   subst e1 e2 e3
   refine⟨.int ns.sum,H,I.kept (h':=h') (t':=tk') fun b o e=>hm.heap b o (fun hb=>absurd (Heap.lt_size e) ((List.mem_singleton.mp hb) ▸ Nat.lt_irrefl _)) (Heap.get?_push_of_some _ e),⟨t',?_⟩,q⟩
   rw[←hs]
 ·obtain⟨its,rv,p,hz⟩:=I.tuple (SqT.of (K:=X.K) hH)
  obtain⟨xs,hx,hs⟩:=fin its (intsAre_of rv)
  rw[hx] at p
  exact PySem.W.ktm_sumG hh (show s.heap.IsTuple l _ from p) fun h' tk t' hk=>⟨.int ns.sum,H,I.kept hk,⟨t',by rw[←hs]⟩,q⟩
def lH:List D->Mo->Option D
 |[d],M=>(qN d M).bind fun l=>(intsOf l).map fun ns=>.int ns.sum
 |_,_=>none
theorem bx(hh:X.A.handled=none):CallD X E (.builtin "sum") (fun l=>rd (lH l)):=CallD.of (Cy hh) fun vs H Q ρ M ds d j c e q=>by
 unfold lH at e
 split at e
 ·obtain⟨l,h1,e1⟩:=Option.bind_eq_some_iff.mp e
  obtain⟨ns,h2,rfl⟩:=Option.map_eq_some_iff.mp e1
  obtain⟨v,rfl,k⟩:=c.one
  replace c:=k
  obtain⟨a,xs,rfl,ha,c⟩:=yP j c h1
  have:=ints_of c h2
  subst this
  exact⟨_,ns,rfl,ha,q ρ H _ .refl j (.int _)⟩
 ·cases e
def GQ:D->Option Bool
 |.bl b=>some b
 |.int i=>some (i != 0)
 |_=>none
def ik:List D->Option (List Bool)
 |[]=>some []
 |d::l=>match GQ d,ik l with
   |some b,some bs=>some (b::bs)
   |_,_=>none
theorem vh:∀ {xs:List V}{l:List D}{bs:List Bool},Cvs mg ρ H xs l->ik l=some bs->(∀ x∈xs,scS x=true)∧xs.map ig=bs
 |_,_,_,.nil,e=>by cases e;exact⟨(fun x hx=>nomatch hx),rfl⟩
 | _,_,_,.cons (d:=d) (ds:=ds) (vs:=vs) c cs,e=>by
   unfold ik at e
   split at e
   ·rename_i b bs h1 h2
    cases e
    obtain⟨a1,a2⟩:=vh cs h2
    cases c with
    |bl b'=>cases h1;exact⟨fun x hx=>by rcases List.mem_cons.mp hx with rfl | hx;rfl;exact a1 x hx,by rw[List.map_cons,a2];rfl⟩
    |int b'=>cases h1;exact⟨fun x hx=>by rcases List.mem_cons.mp hx with rfl | hx;rfl;exact a1 x hx,by rw[List.map_cons,a2];rfl⟩
    |_=>cases h1
   ·cases e
def pM:List D->Mo->Option D
 |[d],M=>(aU d M).bind fun l=>(ik l).map fun bs=>.bl (bs.all id)
 |_,_=>none
def Ag:List D->Mo->Option D
 |[.tup l],_=>(ik l).map fun bs=>.bl (bs.any id)
 |_,_=>none
theorem gq(hh:X.A.handled=none):CallD X E (.builtin "all") (fun l=>rd (pM l)):=CallD.of (Ff hh) fun vs H Q ρ M ds d j c e q=>by
 unfold pM at e
 split at e
 ·obtain⟨l,h1,e1⟩:=Option.bind_eq_some_iff.mp e
  obtain⟨ns,h2,rfl⟩:=Option.map_eq_some_iff.mp e1
  obtain⟨v,rfl,k⟩:=c.one
  replace c:=k
  obtain⟨a,xs,rfl,ha,c⟩:=dg j c h1
  obtain⟨t1,t2⟩:=vh c h2
  subst t2
  exact⟨_,xs,rfl,ha,t1,by have z:=q ρ H _ .refl j (.bl _);rw[List.all_map] at z;exact z⟩
 ·cases e
theorem Cq(hh:X.A.handled=none):CallD X E (.builtin "any") (fun l=>rd (Ag l)):=CallD.of (Fg hh) fun vs H Q ρ M ds d j c e q=>by
 unfold Ag at e
 split at e
 ·obtain⟨ns,h2,rfl⟩:=Option.map_eq_some_iff.mp e
  obtain⟨v,rfl,k⟩:=c.one
  replace c:=k
  cases c with | tup n ha c=>
  obtain⟨t1,t2⟩:=vh c h2
  subst t2
  exact⟨_,_,rfl,ha,t1,by have z:=q ρ H _ .refl j (.bl _);rw[List.any_map] at z;exact z⟩
 ·cases e
def uz:List D->Mo->Option D
 |[d],M=>(qN d M).map .tup
 |_,_=>none
theorem aX:CallD X E (.type "tuple") (fun l=>rd (uz l)):=CallD.of call_tuple_of fun vs H Q ρ M ds d j c e q=>by
 unfold uz at e
 split at e
 ·obtain⟨l,h1,rfl⟩:=Option.map_eq_some_iff.mp e
  obtain⟨v,rfl,k⟩:=c.one
  replace c:=k
  unfold qN at h1
  split at h1
  ·cases h1
   cases c with | tup n a c=>
   exact⟨_,_,rfl,.inr ⟨SqT.of a,q ρ H _ .refl j (.tup n a c)⟩⟩
  ·obtain⟨a,xs,rfl,ha,c⟩:=dg j c h1
   exact⟨_,_,rfl,.inl ⟨SqL.of ha,fun p hp=>q ρ _ _ (.lay hp) (j.lay _ hp) (.tup (j.fresh hp) upd_same (c.mono (.lay hp)))⟩⟩
 ·cases e
def eY:List D->Mo->Option (List D)
 |[d],M=>qN d M
 |_,_=>none
theorem cU:CallD X E (.type "list") (fun l=>rd (fun M=>(eY l M).map .lst)):=CallD.of call_list_of fun vs H Q ρ M ds d j c e q=>by
 obtain⟨l,e1,rfl⟩:=Option.map_eq_some_iff.mp e
 unfold eY at e1
 split at e1
 ·obtain⟨v,rfl,k⟩:=c.one
  replace c:=k
  obtain⟨a,xs,rfl,ha,c⟩:=yP j c e1
  exact⟨_,_,rfl,ha.imp SqL.of SqT.of,fun p hp=>q ρ _ _ (.lay hp) (j.lay _ hp) (.lst (j.fresh hp) upd_same (c.mono (.lay hp)))⟩
 ·cases e1
theorem jH:CallD X E (.type "list") (fun l=>rd (eY l)>>=dH):=by
 intro pins s σ H vs us Q I rs q
 obtain⟨ρ,M,ds,j,c,go⟩:=q
 obtain⟨l,e1,g⟩:=Go.rdb go
 unfold eY at e1
 split at e1
 ·obtain⟨v,rfl,k⟩:=c.one
  replace c:=k
  obtain⟨a,xs,rfl,ha,c⟩:=yP j c e1
  exact call_list_of (X:=X) pins s σ H _ us Q I rs ⟨_,_,rfl,ha.imp SqL.of SqT.of,fun p hp=>(g.dH j c hp).2⟩
 ·cases e1
def Bh(d:D):Option PyData:=match toPy d with
 |some p=>some p
 |none=>bZ d
def wI:List D->Mo->Option D
 |[d],_=>(Bh d).bind fun p=>if p.showable&&decide (p.depth≤60)&&decide (cQ p≤sizeLine) then some (.str p.shown) else none
 |_,_=>none
theorem cV (hg:X.A.guards=some []) (hu:X.A.units + 64<cLine):CallD X E (.builtin "repr") (fun l=>rd (wI l)):=CallD.of (Am hg hu) fun vs H Q ρ M ds d j c e q=>by
 unfold wI at e
 split at e
 ·obtain ⟨p,h1,e1⟩:=Option.bind_eq_some_iff.mp e
  split at e1
  ·rename_i hk
   cases e1
   simp only[Bool.and_eq_true,decide_eq_true_eq] at hk
   obtain⟨v,rfl,k⟩:=c.one
   replace c:=k
   have key:∃f,RepF H f v p:=by
    unfold Bh at h1
    split at h1
    ·rename_i h2
     cases h1;exact⟨true,c.repF h2⟩
    ·exact⟨false,c.repD h1⟩
   obtain⟨f,rp⟩:=key
   exact⟨f,_,p,rfl,rp,hk.1.1,hk.1.2,hk.2,q ρ H _ .refl j (.str _)⟩
  ·cases e1
 ·cases e
def tyOf:D->Mo->Option String
 |.non,_=>some "NoneType"
 |.bl _,_=>some "bool"
 |.int _,_=>some "int"
 |.str _,_=>some "str"
 |.tup _,_=>some "tuple"
 |.lst _,_=>some "list"
 |.scr _,_=>some "list"
 |.dic _ _,_=>some "dict"
 |.ref n,M=>match M[n]? with
   |some (.lst _)=>some "list"
   |some (.dic _ _)=>some "dict"
   |_=>none
 |_,_=>none
theorem Mu {K:PySem.W.Frag} (j:J mg ρ M H) {x:V}{d:D}{t:String} (c:Cv mg ρ H x d) (e:tyOf d M=some t):TyOf K H x (.type t):=by
 cases c with
 |non=>cases e;exact .non
 |bl b=>cases e;exact .bl b
 |int b=>cases e;exact .int b
 |str b=>cases e;exact .str b
 |tup n h c=>cases e;exact .tup h
 |lst n h c=>cases e;exact .lst h
 |dic n h l c=>cases e;exact .dK h
 |scr n h=>
   cases e
   rcases h with h | ⟨o,h⟩
   ·exact .lst h
   ·exact .frz h
 | ref q=>
   unfold tyOf at e
   dsimp only at e
   split at e
   ·rename_i l hl
    cases e
    obtain⟨xs,h,_⟩:=j.obj _ _ _ q hl
    exact .lst h
   ·rename_i ks l hl
    cases e
    obtain⟨xs,h,_⟩:=j.obj _ _ _ q hl
    exact .dK h
   ·cases e
 |_=>cases e
def BJ(t c:String):Bool:=t==c || (t=="bool"&&c=="int")
def tys:List String:=["NoneType", "bool", "int", "str", "tuple", "list", "dict"]
def kI:List D->Mo->Option D
 |[d,.ty c],M=>(tyOf d M).bind fun t=>if tys.contains c then some (.bl (BJ t c)) else none
 |_,_=>none
theorem GR(e:tyOf d M=some t):t∈tys:=by
 unfold tyOf at e
 split at e<;>first | (cases e;decide) | (split at e<;>first | (cases e;decide) | cases e) | cases e
theorem JD{K:PySem.W.Frag}:∀t∈tys,∀c∈tys,PySem.W.kitOne K (.type t) (.type c)=some (BJ t c):=by
 intro t ht c hc
 simp only[tys,List.mem_cons,List.mem_nil_iff,or_false] at ht hc
 rcases ht with rfl | rfl | rfl | rfl | rfl | rfl | rfl<;>rcases hc with rfl | rfl | rfl | rfl | rfl | rfl | rfl<;>rfl
theorem bK:CallD X E (.builtin "isinstance") (fun l=>rd (kI l)):=CallD.of Fi fun vs H Q ρ M ds d j c e q=>by
 unfold kI at e
 split at e
 ·obtain⟨t,h1,e1⟩:=Option.bind_eq_some_iff.mp e
  split at e1
  ·rename_i hk
   cases e1
   obtain⟨v,w,rfl,k,c2⟩:=c.two
   replace c:=k
   cases c2
   exact⟨_,_,_,_,rfl,Mu j c h1,JD _ (GR h1) _ (List.contains_iff_mem.mp hk),q ρ H _ .refl j (.bl _)⟩
  ·cases e1
 ·cases e
def Cg(X:Cx)(E:XK)(id:String)(g:D->List D->DM D):Prop:=MtR X id (fun x vs H Q=>∃ρ M d ds,J X.mg ρ M H∧Cv X.mg ρ H x d∧Cvs X.mg ρ H vs ds∧Go X.mg E (Cv X.mg) Q ρ H (g d ds) M)
def Fd:D->List D->DM D
 |.ref n,[v]=>fun M=>match M[n]? with
   |some (.lst l)=>if l.length<sizeLine then some (.ok .non,M.set n (.lst (l++[v]))) else none
   |_=>none
 |_,_=>stuck
theorem zM:Cg X E "list.append" Fd:=by
 intro pins s σ H x xs v us Q I rx rs q
 obtain⟨ρ,M,d,ds,j,cx,cs,r,e,p⟩:=q
 cases cx with
 | ref hn=>
   cases cs with
   |nil=>cases e
   | cons c cs=>cases cs with
     |cons _ _=>cases e
     | nil=>
       rename_i n a w dw
       have e:(match M[n]? with
        |some (.lst l)=>if l.length<sizeLine then some (R.ok .non,M.set n (.lst (l++[dw]))) else none
        |_=>none)=some r:=e
       split at e
       ·rename_i l hl
        split at e
        ·cases e
         obtain⟨xs,hx,cl⟩:=j.obj _ _ _ hn hl
         have x:Ext ρ H ρ (upd H a (.lst (xs++[w]))):=.upd (List.mem_of_getElem? hn)
         exact mt_append (X:=X) pins s σ H _ _ v us Q I rx rs ⟨_,_,_,rfl,rfl,hx,by rw[cl.len];assumption,p ρ _ .non x (j.upd hn ⟨_,upd_same,(cl.append (.cons c .nil)).mono x⟩) .non⟩
        ·cases e
       ·cases e
 |_=>cases e
def Gy:D->List D->DM D
 | .ref n,[.int i]=>fun M=>match M[n]? with
   | some (.lst l)=>match ixN l.length i with
     |some k=>match l[k]? with
       |some d=>if decide (-(2^63)≤i∧i<2^63) then some (.ok d,M.set n (.lst (l.eraseIdx k))) else none
       |none=>none
     |none=>none
   |_=>none
 |_,_=>stuck
theorem Cvs.erase:∀{vs:List V}{ds:List D} (i:Nat),Cvs mg ρ H vs ds->Cvs mg ρ H (vs.eraseIdx i) (ds.eraseIdx i)
 |_,_,_,.nil=>.nil
 |_,_,0,.cons _ t=>t
 |_,_,i+1,.cons a t=>.cons a (Cvs.erase i t)
theorem HW:Cg X E "list.pop" Gy:=by
 intro pins s σ H x xs v us Q I rx rs q
 obtain⟨ρ,M,d,ds,j,cx,cs,r,e,p⟩:=q
 cases cx with
 | ref hn=>
   cases cs with
   |nil=>cases e
   | cons c cs=>cases cs with
     |cons _ _=>cases c<;>cases e
     | nil=>cases c with
       | int i=>
         rename_i n a
         have e:(match M[n]? with
          | some (.lst l)=>match ixN l.length i with
            |some k=>match l[k]? with
              |some d=>if decide (-(2^63)≤i∧i<2^63) then some (R.ok d,M.set n (.lst (l.eraseIdx k))) else none
              |none=>none
            |none=>none
          |_=>none)=some r:=e
         split at e
         ·rename_i l hl
          split at e
          ·rename_i k hk
           split at e
           ·rename_i d hd
            split at e
            ·rename_i hb
             have hb:=of_decide_eq_true hb
             cases e
             obtain⟨xs,hx,cl⟩:=j.obj _ _ _ hn hl
             obtain⟨w,hw,cw⟩:=cl.get hd
             have x:Ext ρ H ρ (upd H a (.lst (xs.eraseIdx k))):=.upd (List.mem_of_getElem? hn)
             exact mt_popAt (X:=X) pins s σ H _ _ v us Q I rx rs ⟨_,_,_,k,w,rfl,rfl,hx,hb.1,hb.2,by rw[cl.len];exact (ixN_seq hk).1,hw,p ρ _ w x (j.upd hn ⟨_,upd_same,(cl.erase k).mono x⟩) (cw.mono x)⟩
            ·cases e
           ·cases e
          ·cases e
         ·cases e
       |_=>cases e
 |_=>cases e
theorem tR {name id:String}{g:D->List D->DM D}{o e:Expr}{es:List Expr}{fo:ao->DM D}{fs:ao->DM (List D)}{apos cpos:Pos} (pa:PlainAttrs "list") (slot:Slot "list" name id) (hty:typeOf (.builtin id)=pure (.type "method_descriptor")) (hm:Cg X E id g) (ho:DE X E o fo) (ha:DA X E (e::es) fs)
  (hbase:attributeBase o name X.env (eval o X.env)=eval o X.env:=by rfl)
  (hfew:((backTo cpos (starEach (e::es) X.env)).all (fun x=>!x.1)&&(backToKw cpos (keywordEach [] X.env)).all (fun x=>x.1.isSome)
   &&decide ((e::es).length+([]:List Keyword).length+(if ([]:List Keyword).isEmpty then 0 else 1)<30))=true:=by rfl)
  (hline:(apos.endLine==cpos.line)=true:=by rfl) (hs:notStar e=true:=by rfl) (hplain:(backTo cpos (starEach es X.env)).any (·.1)=false:=by rfl) :
  DE X E (.Call (.Attribute o name apos) (e::es) [] cpos) (fun δ=>fo δ>>=fun x=>rd (fun M=>aU x M)>>=fun _=>fs δ>>=fun xs=>g x xs):=⟨PE.mono (J8 pa slot hty hm ho.h ha.h hbase hfew hline hs hplain) fun σ H Q h=>by
 obtain⟨ρ,δ,M,ev,j,g1⟩:=h
 refine⟨ρ,δ,M,ev,j,g1.bind fun ρ1 H1 M1 x dx e1 j1 c1 g2=>?_⟩
 obtain⟨l,hl,g3⟩:=Go.rdb g2
 obtain⟨a,xs,rfl,hx,cl⟩:=dg j1 c1 hl
 exact⟨.inl ⟨rfl,_,SqL.of hx⟩,ρ1,δ,M1,ev.mono e1,j1,g3.bind fun ρ2 H2 M2 ys dys e2 j2 c2 g4=>⟨ρ2,M2,dx,dys,j2,c1.mono e2,c2,g4⟩⟩⟩
end
structure ExtB(acc:Addr)(ρ:Rh)(H:Hp)(ρ':Rh)(H':Hp):Prop where
 pre:∃τ,ρ'.st=ρ.st++τ
 vo:ρ'.vo=ρ.vo
 new:∀a,a∈ρ'.st->a∉ρ.st->H a=none
 keep:∀a o,H a=some o->a∉ρ.st->a≠acc->H' a=some o
 na:acc∉ρ'.st
section
variable{acc:Addr}{ρ ρ1 ρ2:Rh}{H H1 H2:Hp}
theorem ExtB.trans (e:ExtB acc ρ H ρ1 H1) (f:ExtB acc ρ1 H1 ρ2 H2):ExtB acc ρ H ρ2 H2:=by
 have out:∀a o,H a=some o->a∉ρ.st->a∉ρ1.st:=fun a o h n z=>by have:=e.new a z n;rw[h] at this;cases this
 refine⟨?_,f.vo.trans e.vo,fun a h n=>?_,fun a o h n na=>f.keep a o (e.keep a o h n na) (out a o h n) na,f.na⟩
 ·obtain⟨τ,h1⟩:=e.pre
  obtain⟨υ,h2⟩:=f.pre
  exact⟨τ++υ,by rw[h2,h1,List.append_assoc]⟩
 ·by_cases z:a∈ρ1.st
  ·exact e.new a z n
  ·cases q:H a with
   |none=>rfl
   |some o=>
     have:=f.new a h z
     rw[e.keep a o q n (fun y=>f.na (y ▸ h))] at this;cases this
theorem Ext.b(e:Ext ρ H ρ1 H1)(na:acc∉ρ1.st):ExtB acc ρ H ρ1 H1:=⟨e.pre,e.vo,e.new,fun a o h n _=>e.keep a o h n,na⟩
theorem ExtB.kp(e:ExtB acc ρ H ρ1 H1)(h:acc∈ρ.vo):Kp ρ H ρ1 H1:=⟨e.pre,fun a o q n=>by
 have ne:a≠acc:=fun z=>n (z ▸ .inr h)
 have ns:a∉ρ.st:=fun z=>n (.inl z)
 refine⟨fun z=>?_,e.keep a o q ns ne⟩
 rcases z with z | z
 ·have:=e.new a z ns
  rw[q] at this;cases this
 ·rw[e.vo] at z;exact n (.inr z)⟩
theorem ExtB.refl(na:acc∉ρ.st):ExtB acc ρ H ρ H:=(Ext.refl).b na
theorem ExtB.grow(na:acc∉ρ.st):ExtB acc ρ H ρ (upd H acc (.lst ys)):=⟨⟨[],by simp⟩,rfl,fun a h n=>absurd h n,fun a o h _ ne=>by rw[upd_ne ne];exact h,na⟩
end
structure Cst(X:Cx)(pins:List (Addr×Obj))(acc:Addr)(ρ0:Rh)(H0:Hp)(δ:ao)(l:List D)(M:Mo)(fp:List Addr)(s:Shared):Prop where
 ex:∃σ H ρ ys,Inv X pins σ H s∧ExtB acc ρ0 H0 ρ H∧J X.mg ρ M H∧Ev X.mg ρ H σ δ∧H acc=some (.lst ys)∧Cvs X.mg ρ H ys l∧∀b∈fp,H b=none
def aZ(fg:D->ao->DM ao)(ft:ao->DM Bool)(fb:ao->List D->DM (ao×List D)):List D->ao->List D->DM (ao×List D)
 |[],δ,l=>pure (δ,l)
 |d::ds,δ,l=>fg d δ>>=fun δ1=>ft δ1>>=fun b=>(if b then fb δ1 l else pure (δ1,l))>>=fun p=>aZ fg ft fb ds p.1 p.2
def uc (fg:D->ao->DM ao) (ft:ao->DM Bool) (fb:ao->List D->DM (ao×List D)) (n:Nat):Nat->Nat->ao->List D->DM (ao×List D)
 |0,_,_,_=>stuck
 |k+1,i,δ,l=>rd (Itn.next (.dyn n) i)>>=fun o=>match o with
   |none=>pure (δ,l)
   |some d=>fg d δ>>=fun δ1=>ft δ1>>=fun b=>(if b then fb δ1 l else pure (δ1,l))>>=fun p=>uc fg ft fb n k (i+1) p.1 p.2
def dC(fg:D->ao->DM ao)(ft:ao->DM Bool)(fb:ao->List D->DM (ao×List D)):Itn->ao->List D->DM (ao×List D)
 |.fix ds,δ,l=>aZ fg ft fb ds δ l
 |.dyn n,δ,l=>rd (fun M=>aU (.ref n) M)>>=fun m=>uc fg ft fb n (m.length+1) 0 δ l
def bh(fe:ao->DM D)(δ:ao)(l:List D):DM (ao×List D):=fe δ>>=fun d=>if l.length<sizeLine then pure (δ,l++[d]) else stuck
def Od(X:Cx)(ifs:List Expr)(t:TT):Prop:=∀(pins:List (Addr×Obj)) (s:Shared) (σ:L2.St) (H:Hp) (Q:Bool->Hp->Prop),Inv X pins σ H s->t σ H Q->wpAny (model X.prog X.w) X.A (vf ifs X.env) (TP X pins σ Q) X.xe s
structure DTs(X:Cx)(E:XK)(ifs:List Expr)(f:ao->DM Bool):Prop where
 h:Od X ifs (tD X.mg E Bv f)
theorem eO:DTs X E [] (fun _=>pure true):=⟨fun pins s σ H Q I h=>by
 obtain⟨ρ,δ,M,ev,j,g⟩:=h
 exact wpAny_pure ⟨H,I,g.pure ρ H true .refl j rfl⟩⟩
theorem Hz(hc:DT X E c f):DTs X E [c] f:=⟨fun pins s σ H Q I h=>wpAny_tests_one (hc.h pins s σ H Q I h)⟩
theorem DM.bind_ok{α β:Type}{m:DM α}{k:α->DM β}{M M':Mo}{b:β}(h:(m>>=k) M=some (.ok b,M')):∃a M1,m M=some (.ok a,M1)∧k a M1=some (.ok b,M'):=by
 have h:DM.bind m k M=some (.ok b,M'):=h
 unfold DM.bind at h
 split at h
 ·cases h
 ·cases h
 ·rename_i a M1 e
  exact⟨a,M1,e,h⟩
def BodyOk(X:Cx)(acc:Addr)(W:(Shared->Prop)->Shared->Prop)(fb:ao->List D->DM (ao×List D)):Prop:=
 ∀pins ρ0 H0 δ l M s δ' l' M',acc∈ρ0.vo->Cst X pins acc ρ0 H0 δ l M [] s->fb δ l M=some (.ok (δ',l'),M')->W (fun s'=>Cst X pins acc ρ0 H0 δ' l' M' [] s') s
theorem Cst.unpin(c:Cst X (pins++pl) acc ρ0 H0 δ l M [] s)(h:∀b∈fp,∃o,(b,o)∈pl) :
  Cst X pins acc ρ0 H0 δ l M fp s∧∀p∈pl,s.heap.get? p.1=some p.2:=by
 obtain⟨σ,H,ρ,ys,I,x,j,ev,ha,cl,_⟩:=c.ex
 refine⟨⟨σ,H,ρ,ys,I.unpinned,x,j,ev,ha,cl,fun b hb=>?_⟩,fun p hp=>(I.pin p (List.mem_append_right _ (List.mem_append_right _ hp))).1⟩
 obtain⟨o,ho⟩:=h b hb
 exact (I.pin (b,o) (List.mem_append_right _ (List.mem_append_right _ ho))).2.1
def vC(fg:D->ao->DM ao)(ft:ao->DM Bool)(fb:ao->List D->DM (ao×List D))(δf:ao)(lf:List D)(Mf:Mo):Itn->Nat->Nat->ao->List D->Mo->Prop
 |.fix ds,n,i,δ,l,M=>n=ds.length-i∧aZ fg ft fb (ds.drop i) δ l M=some (.ok (δf,lf),Mf)
 |.dyn a,n,i,δ,l,M=>uc fg ft fb a n i δ l M=some (.ok (δf,lf),Mf)
theorem vC.step {fg:D->ao->DM ao}{ft:ao->DM Bool}{fb:ao->List D->DM (ao×List D)}{δf δ:ao}{lf l:List D}{Mf M:Mo}{it:Itn}{n i:Nat} (h:vC fg ft fb δf lf Mf it n i δ l M) :
  (it.next i M=some none∧δ=δf∧l=lf∧M=Mf)∨∃d δ1 M1 b M2 δ3 l3 M3 m,it.next i M=some (some d)∧fg d δ M=some (.ok δ1,M1)∧ft δ1 M1=some (.ok b,M2)∧(if b then fb δ1 l else pure (δ1,l)) M2=some (.ok (δ3,l3),M3)∧m<n∧vC fg ft fb δf lf Mf it m (i+1) δ3 l3 M3:=by
 cases it with
 | fix ds=>
   obtain⟨rfl,h⟩:=h
   cases hd:ds[i]? with
   |none=>
     rw[List.drop_eq_nil_of_le (List.getElem?_eq_none_iff.mp hd)] at h
     cases h
     exact .inl ⟨congrArg some hd,rfl,rfl,rfl⟩
   |some d=>
     obtain⟨hi',hd'⟩:=List.getElem?_eq_some_iff.mp hd
     have hl:ds.drop i=d::ds.drop (i+1):=by rw[←hd'];exact List.drop_eq_getElem_cons hi'
     rw[hl] at h
     obtain⟨δ1,M1,e1,h1⟩:=DM.bind_ok h
     obtain⟨b,M2,e2,h2⟩:=DM.bind_ok h1
     obtain⟨⟨δ3,l3⟩,M3,e3,h3⟩:=DM.bind_ok h2
     exact .inr ⟨d,δ1,M1,b,M2,δ3,l3,M3,ds.length-(i+1),congrArg some hd,e1,e2,e3,by lia,rfl,h3⟩
 | dyn a=>
   cases n with
   |zero=>cases h
   | succ n=>
     obtain⟨o,M0,e0,h⟩:=DM.bind_ok h
     obtain⟨o',q,z⟩:=Option.map_eq_some_iff.mp e0
     cases z
     cases o with
     |none=>cases h;exact .inl ⟨q,rfl,rfl,rfl⟩
     |some d=>
       obtain⟨δ1,M1,e1,h1⟩:=DM.bind_ok h
       obtain⟨b,M2,e2,h2⟩:=DM.bind_ok h1
       obtain⟨⟨δ3,l3⟩,M3,e3,h3⟩:=DM.bind_ok h2
       exact .inr ⟨d,δ1,M1,b,M2,δ3,l3,M3,n,q,e1,e2,e3,Nat.lt_succ_self _,h3⟩
theorem vC.start {fg:D->ao->DM ao}{ft:ao->DM Bool}{fb:ao->List D->DM (ao×List D)}{δf δ:ao}{lf l:List D}{Mf M:Mo}{it:Itn} (h:dC fg ft fb it δ l M=some (.ok (δf,lf),Mf)):∃ n,vC fg ft fb δf lf Mf it n 0 δ l M:=by
 cases it with
 |fix ds=>exact⟨_,rfl,h⟩
 |dyn a=>
   obtain⟨m,M0,e0,h⟩:=DM.bind_ok h
   obtain⟨m',q,z⟩:=Option.map_eq_some_iff.mp e0
   cases z
   exact⟨_,h⟩
theorem Dk (hc:X.calm=true) (hxe:X.xe=fun _ _=>False) {gens:List Comprehension}{depth:Nat}{bodyK:Sem Fin->Sem Fin}{W:(Shared->Prop)->Shared->Prop}
  (hturn:compTurn (.ListComp elt gens scope pos) depth (.ref it) (.ref acc) X.env=turnOf g bodyK (.compLoop (.ListComp elt gens scope pos) depth (.ref it) (.ref acc) X.env) (.ref it) X.env) (hW:tH X.prog X.w X.A bodyK W) (hmono:∀P P' s,(∀s,P s->P' s)->W P s->W P' s)
  {fg:D->ao->DM ao}{ft:ao->DM Bool}{fb:ao->List D->DM (ao×List D)} (hg:DG X E0 g.target fg) (ht:DTs X E0 g.ifs ft) (hb:BodyOk X acc W fb) {fp:List Addr}{tn:Nat->Heap->Prop} (T:Turn X.prog X.w X.K g.target Jt fp it tn) (iok:ItOk X.mg ρi Hi Jt itn) (hacc:acc∈ρ0.vo) (kp0:Kp ρi Hi ρ0 H0) {pins:List (Addr×Obj)}
  (fok:∀H',(∀b∈fp,H' b=none)->∀b∈fp,FpOk X pins H' b) {l:List D} (st:Cst X pins acc ρ0 H0 δ l M fp s) (htn:tn 0 s.heap) {lf:List D} (hrun:dC fg ft fb itn δ l M=some (.ok (δf,lf),Mf))
  {R:Result->Shared->Prop} (hR:∀s',Cst X pins acc ρ0 H0 δf lf Mf fp s'->R (.ok .next) s') :
  codeAny (model X.prog X.w) X.A (.compLoop (.ListComp elt gens scope pos) depth (.ref it) (.ref acc) X.env) R s:=by
 obtain⟨n0,rem0⟩:=vC.start hrun
 refine Gj (fun n s=>∃i δ l M,vC fg ft fb δf lf Mf itn n i δ l M∧Cst X pins acc ρ0 H0 δ l M fp s∧tn i s.heap) hturn hW ?_ hmono n0 ⟨0,δ,l,M,rem0,st,htn⟩
 rintro n s ⟨i,δ,l,M,rem,st,htn⟩
 obtain⟨σ,H,ρ,ys,I,x,j,ev,ha,cl,fr⟩:=st.ex
 have kp:Kp ρi Hi ρ H:=kp0.trans (x.kp hacc)
 rcases rem.step with ⟨hd,rfl,rfl,rfl⟩ | ⟨d,δ1,M1,b,M2,δ3,l3,M3,m,hd,e1,e2,e3,hm,rem3⟩
 ·refine wpAny_mono (T.done X rfl rfl rfl hc i pins s σ H _ I (fok H fr) htn (iok.stop i ρ H _ kp j hd)) (fun r s1 h1=>?_) fun _ _ z=>z
  obtain⟨rfl,I1⟩:=h1
  exact hR s1 ⟨σ,H,ρ,ys,I1,x,j,ev,ha,cl,fr⟩
 ·obtain ⟨go,yl⟩:=iok.item i ρ H M d kp j hd
  refine wpAny_mono (T.item X rfl rfl rfl hc i pins s σ H (fun _ _=>False) I (fok H fr) htn go) (fun r s1 h1=>?_) fun _ _ z=>z
  obtain⟨u,rfl,h1⟩:=h1
  refine wpAny_mono h1 (fun _ s2 h2=>?_) fun _ _ z=>z
  obtain⟨xv,H5,I5,r5,y5,tn5,fr5⟩:=h2
  obtain⟨x5,j5,c5⟩:=yl xv H5 y5
  have I5':=I5.pinned (fok H5 fr5) (T.obj _ _ tn5)
  refine wpAny_mono (hg.h _ s2 σ H5 xv u (fun σ6 H6=>∃ρ6,Ext ρ H5 ρ6 H6∧J X.mg ρ6 M1 H6∧Ev X.mg ρ6 H6 σ6 δ1) I5' r5 ⟨ρ,δ,M,d,ev.mono x5,j5,c5,_,e1,fun ρ6 H6 σ6 a1 a2 a3=>⟨ρ6,a1,a2,a3⟩⟩) (fun _ s3 h3=>?_) fun _ _ z=>by rw[hxe] at z;exact z
  obtain⟨σ6,H6,I6,ρ6,x6,j6,ev6⟩:=h3
  refine wpAny_mono (ht.h _ s3 σ6 H6 (fun b' H7=>b'=b∧∃ρ7,Ext ρ6 H6 ρ7 H7∧J X.mg ρ7 M2 H7) I6 ⟨ρ6,δ1,M1,ev6,j6,_,e2,fun ρ7 H7 b' a1 a2 a3=>⟨a3,ρ7,a1,a2⟩⟩) (fun ok s4 h4=>?_) fun _ _ z=>by rw[hxe] at z;exact z
  obtain⟨H7,I7,rfl,ρ7,x7,j7⟩:=h4
  have nacc:acc∉ρ.st:=x.na
  have na6:acc∉ρ6.st:=fun z=>by
   have h5:=x5.keep acc _ ha nacc
   have:=x6.new acc z nacc
   rw[h5] at this;cases this
  have ha5:=x5.keep acc _ ha nacc
  have ha6:=x6.keep acc _ ha5 nacc
  have na7:acc∉ρ7.st:=fun z=>by
   have:=x7.new acc z na6
   rw[ha6] at this;cases this
  have ha7:=x7.keep acc _ ha6 na6
  have xb:ExtB acc ρ0 H0 ρ7 H7:=((x.trans (x5.b nacc)).trans (x6.b na6)).trans (x7.b na7)
  have ct:Cst X (pins++pinsAt fp s2.heap) acc ρ0 H0 δ1 l M2 [] s4:=⟨σ6,H7,ρ7,ys,I7,xb,j7,ev6.mono x7,ha7,((cl.mono x5).mono x6).mono x7,fun b hb=>nomatch hb⟩
  have fin:∀s5,Cst X (pins++pinsAt fp s2.heap) acc ρ0 H0 δ3 l3 M3 [] s5->∃m,m<n∧∃i δ l M,vC fg ft fb δf lf Mf itn m i δ l M∧Cst X pins acc ρ0 H0 δ l M fp s5∧tn i s5.heap:=fun s5 c5=>by
   obtain⟨c6,pp⟩:=c5.unpin (fp:=fp) fun b hb=>by
    obtain⟨o,eo,_⟩:=T.obj _ _ tn5 b hb
    exact⟨o,mem_pinsAt hb eo⟩
   exact⟨m,hm,i+1,δ3,l3,M3,rem3,c6,T.keep _ _ _ tn5 fun b hb o eo=>pp (b,o) (mem_pinsAt hb eo)⟩
  cases ok with
  |true=>exact iteT (hmono _ _ _ fin (hb _ ρ0 H0 δ1 l M2 s4 δ3 l3 M3 hacc ct e3))
  |false=>
    cases e3
    exact iteF (fin s4 ct)
theorem zA{X:Cx}(hxe:X.xe=fun _ _=>False){elt:Expr}{fe:ao->DM D}{acc:Addr}(he:DE X E0 elt fe) :
  BodyOk X acc (fun P s=>wpAny (model X.prog X.w) X.A (eval elt X.env) (fun x s1=>wpAny (model X.prog X.w) X.A (call (.builtin "list.append") [.ref acc,x]) (fun _ s2=>P s2) (fun _ _=>False) s1) (fun _ _=>False) s) (bh fe):=by
 intro pins ρ0 H0 δ l M s δ' l' M' hacc ct e
 obtain⟨d,M1,e1,e2⟩:=DM.bind_ok e
 obtain⟨σ,H,ρ,ys,I,x,j,ev,ha,cl,_⟩:=ct.ex
 split at e2
 rotate_left
 ·cases e2
 rename_i hz
 cases e2
 refine wpAny_mono (he.h pins s σ H (fun v H1=>∃ρ1,Ext ρ H ρ1 H1∧J X.mg ρ1 M' H1∧Cv X.mg ρ1 H1 v d) I ⟨ρ,δ,M,ev,j,_,e1,fun ρ1 H1 v a1 a2 a3=>⟨ρ1,a1,a2,a3⟩⟩) (fun u s1 h1=>?_) fun _ _ z=>by rw[hxe] at z;exact z
 obtain⟨v,H1,I1,rv,ρ1,x1,j1,c1⟩:=h1
 have nacc:acc∉ρ.st:=x.na
 have ha1:=x1.keep acc _ ha nacc
 have na1:acc∉ρ1.st:=fun z=>by
  have:=x1.new acc z nacc
  rw[ha] at this;cases this
 have hv1:acc∈ρ1.vo:=by rw[x1.vo,x.vo];exact hacc
 refine wpAny_mono (mt_append (X:=X) pins s1 σ H1 (.ref acc) [v] (.ref acc) [u] (fun _ H'=>H'=upd H1 acc (.lst (ys++[v]))) I1 rfl (.cons rv .nil) ⟨_,ys,v,rfl,rfl,ha1,by rw[cl.len];exact hz,rfl⟩) (fun _ s2 h2=>?_) fun _ _ z=>by rw[hxe] at z;exact z
 obtain⟨_,H2,I2,_,rfl⟩:=h2
 exact⟨σ,_,ρ1,ys++[v],I2,(x.trans (x1.b na1)).trans (.grow na1),j1.grow hv1,(ev.mono x1).kp ((ExtB.grow na1).kp hv1),upd_same,((cl.mono x1).append (.cons c1 .nil)).hold hv1,fun b hb=>nomatch hb⟩
def dj{α:Type}(m:DM α):DM α:=fun M=>match m M with
 |some (.ok a,M')=>some (.ok a,M')
 |_=>none
theorem mY(h:dj m M=some r):∃a M',m M=some (.ok a,M')∧r=(.ok a,M'):=by
 unfold dj at h
 split at h
 ·rename_i a M' e
  cases h
  exact⟨a,M',e,rfl⟩
 ·cases h
def bc(js:List Nat)(δ:ao):ao:=js.map fun j=>(δ[j]?).getD none
def aP(k:Nat)(js:List Nat)(δ:ao):ao:=List.replicate k none++bc js δ
theorem zB (ev:Ev mg ρ H σ δ) (k:Nat) (js:List Nat):Ev mg ρ H (List.replicate k none++pick js σ) (aP k js δ):=by
 unfold aP pick bc
 refine⟨by simp,fun i d q=>?_⟩
 by_cases hi:i<k
 ·rw[List.getElem?_append_left (by rw[List.length_replicate];exact hi),List.getElem?_replicate] at q
  split at q<;>cases q
 ·rw [List.getElem?_append_right (by rw [List.length_replicate];lia),List.length_replicate,List.getElem?_map] at q ⊢
  cases hj:js[i-k]? with
  |none=>rw[hj] at q;cases q
  | some j=>
    rw[hj] at q
    have q:(δ[j]?).getD none=some d:=Option.some.inj q
    have q':δ[j]?=some (some d):=by
     cases z:δ[j]? with
     |none=>rw[z] at q;cases q
     |some o=>rw[z] at q;exact congrArg some q
    obtain⟨v,h1,h2⟩:=ev.val j d q'
    exact⟨v,by show some ((σ[j]?).getD none)=_;rw[h1];rfl,h2⟩
theorem nZ(hp:H p=none):Kp ρ H (ρ.hold p) (upd H p o):=⟨⟨[],by show ρ.st=_;simp⟩,fun a u h n=>⟨Rh.nhold n (ne_of_none h hp),by rw[upd_ne (ne_of_none h hp)];exact h⟩⟩
inductive Out where
 |val | sto
def Out.run:Out->List D->DM D
 |.val,l=>pure (.lst l)
 |.sto,l=>fun M=>some (.ok (.ref M.length),M++[.lst l])
theorem Out.fin (o:Out) (hf:H2 acc=none) (hn:acc∉ρ1) (x:ExtB acc (ρ1.hold acc) (upd H2 acc (.lst [])) ρ4 H4) (j:J mg ρ4 M H4) (ha:H4 acc=some (.lst ys)) (c:Cvs mg ρ4 H4 ys l)
  (g:Go mg E (Cv mg) Q ρ1 H2 (o.run l) M):Q (.ref acc) H4:=by
 have hv:ρ4.vo=acc::ρ1.vo:=x.vo
 have na:acc∉ρ1.vo:=fun z=>hn (.inr z)
 have nw:∀a,a∈ρ4.st->a∉ρ1.st->H2 a=none:=fun a h n=>by
  have:=x.new a h n
  by_cases z:a=acc
  ·rw[z,upd_same] at this;cases this
  ·rw[upd_ne z] at this;exact this
 have kp:∀a o,H2 a=some o->a∉ρ1.st->H4 a=some o:=fun a o h n=>x.keep a o (by rw[upd_ne (ne_of_none h hf)];exact h) n (ne_of_none h hf)
 cases o with
 | val=>
   have e:Ext ρ1 H2 ⟨ρ4.st,ρ1.vo⟩ H4:=⟨x.pre,rfl,nw,kp⟩
   have jd:J mg ⟨ρ4.st,ρ1.vo⟩ M H4:=J.done (ρ:=ρ1) j hv
   have cd:Cvs mg ⟨ρ4.st,ρ1.vo⟩ H4 ys l:=Cvs.less (ρ:=ρ4) (ρ1:=⟨ρ4.st,ρ1.vo⟩) rfl (fun a h=>by rw[hv];exact .tail _ h) c
   exact Go.pure (a:=D.lst l) g ⟨ρ4.st,ρ1.vo⟩ H4 (.ref acc) e jd (.lst (fun z=>by
    rcases z with z | z
    ·exact x.na z
    ·exact na z) ha cd)
 | sto=>
   obtain⟨r,er,p⟩:=g
   cases er
   have k4:Kp ρ4 H4 ⟨ρ4.st++[acc],ρ1.vo⟩ H4:=⟨⟨[acc],rfl⟩,fun a o h n=>⟨fun z=>by
    rcases z with z | z
    ·rcases List.mem_append.mp z with z | z
     ·exact n (.inl z)
     ·exact n (.inr (by rw[hv,List.mem_singleton.mp z];exact .head _))
    ·exact n (.inr (by rw[hv];exact .tail _ z)),h⟩⟩
   have e:Ext ρ1 H2 ⟨ρ4.st++[acc],ρ1.vo⟩ H4:=by
    refine⟨?_,rfl,fun a h n=>?_,kp⟩
    ·obtain⟨τ,h1⟩:=x.pre
     exact⟨τ++[acc],by show ρ4.st++[acc]=_;rw[h1,List.append_assoc];rfl⟩
    ·rcases List.mem_append.mp h with z | z
     ·exact nw a z n
     ·rw[List.mem_singleton.mp z];exact hf
   have jd:J mg ⟨ρ4.st++[acc],ρ1.vo⟩ (M++[.lst l]) H4:=by
    refine⟨by show (ρ4.st++[acc]).length=_;rw[List.length_append,List.length_append,j.len];rfl,?_,fun n a w h1 h2=>?_,fun a h=>?_⟩
    ·show (ρ4.st++[acc]).Nodup
     rw[List.nodup_append]
     exact⟨j.nd,by simp,fun x' hx y hy e=>by rw[List.mem_singleton.mp hy] at e;exact x.na (e ▸ hx)⟩
    ·have h1:(ρ4.st++[acc])[n]?=some a:=h1
     by_cases hl:n<ρ4.st.length
     ·rw[List.getElem?_append_left hl] at h1
      rw[List.getElem?_append_left (by rw[←j.len];exact hl)] at h2
      exact (j.obj n a w h1 h2).map rfl fun vs ds c=>c.kp k4
     ·have hl':n<(ρ4.st++[acc]).length:=(List.getElem?_eq_some_iff.mp h1).1
      rw[List.length_append] at hl'
      have e:n=ρ4.st.length:=by have:[acc].length=1:=rfl;lia
      subst e
      rw[List.getElem?_append_right (Nat.le_refl _)] at h1
      rw[j.len,List.getElem?_append_right (Nat.le_refl _)] at h2
      simp at h1 h2
      subst h1 h2
      exact⟨ys,ha,c.kp k4⟩
    ·have h:a∈ρ1.vo:=h
     obtain⟨y1,y2⟩:=j.vol a (by rw[hv];exact .tail _ h)
     refine⟨fun z=>?_,y2⟩
     rcases List.mem_append.mp z with z | z
     ·exact y1 z
     ·exact na (List.mem_singleton.mp z ▸ h)
   refine p _ H4 (.ref acc) e jd (.ref ?_)
   show (ρ4.st++[acc])[_]?=_
   rw[←j.len];simp
theorem Ft {cl:List (Str×Addr)}{own:List Str}{js:List Nat}{fr:List Str}{f0:List Expr}{gs:List Comprehension}{fi:ao->DM Itn}{fg:D->ao->DM ao}{ft:ao->DM Bool}{fb:ao->List D->DM (ao×List D)}
  {bodyK:Cx->Addr->Sem Fin->Sem Fin}{W:Cx->Addr->(Shared->Prop)->Shared->Prop} (o:Out) (hc:X.calm=true) (T:CompG X scope cl own js fr) (hi:DI X E t0 i0 fi)
  (hturn:∀(Y:Cx) it acc,compTurn (.ListComp elt (⟨t0,i0,f0,0⟩::gs) scope pos) 0 (.ref it) (.ref acc) Y.env=turnOf ⟨t0,i0,f0,0⟩ (bodyK Y acc) (.compLoop (.ListComp elt (⟨t0,i0,f0,0⟩::gs) scope pos) 0 (.ref it) (.ref acc) Y.env) (.ref it) Y.env)
  (hW:∀Y acc,tH Y.prog Y.w Y.A (bodyK Y acc) (W Y acc)) (hmono:∀Y acc P P' s,(∀s,P s->P' s)->W Y acc P s->W Y acc P' s)
  (hg:∀pins m fp C s₂ H₂,DG (X.bN pins scope (cellsFrom m scope.names cl) (own++fr) fp C s₂ H₂) E0 t0 fg) (ht:∀pins m fp C s₂ H₂,DTs (X.bN pins scope (cellsFrom m scope.names cl) (own++fr) fp C s₂ H₂) E0 f0 ft)
  (hb:∀pins m fp C s₂ H₂ acc,BodyOk (X.bN pins scope (cellsFrom m scope.names cl) (own++fr) fp C s₂ H₂) acc (W (X.bN pins scope (cellsFrom m scope.names cl) (own++fr) fp C s₂ H₂) acc) fb)
  (hs:∀y,foldedSetIterable i0 X.env y=pure y:=by intro _;rfl) :
  DE X E (.ListComp elt (⟨t0,i0,f0,0⟩::gs) scope pos) (fun δ=>fi δ>>=fun it=>dj (dC fg ft fb it (aP own.length js δ) [])>>=fun p=>o.run p.2):=⟨by
 intro pins s σ H Q I h
 obtain⟨ρ,δ,M,ev,j,g1⟩:=h
 rw[eval_ListComp]
 refine wpAny_comprehension_free (cl:=cl) (use:=none) rfl hs T.clos T.kind T.names ?_
 refine thn (hi.h pins s σ H (fun Jt H1=>∃ρ1 M1 it,Ext ρ H ρ1 H1∧J X.mg ρ1 M1 H1∧ItOk X.mg ρ1 H1 Jt it∧Go X.mg E (Cv X.mg) Q ρ1 H1 (dj (dC fg ft fb it (aP own.length js δ) [])>>=fun p=>o.run p.2) M1) I
  ⟨ρ,δ,M,ev,j,g1.bind fun ρ1 H1 M1 Jt it e1 j1 iok g2=>⟨ρ1,M1,it,e1,j1,iok,g2⟩⟩) fun v s1 h1=>thn h1 fun itv s2 h2=>?_
 obtain⟨it,fp,tn,Jt,H2,rfl,I2,Tn,st2,f2,ρ1,M1,itn,x1,j1,iok,g2⟩:=h2
 have hrun:∃δf lf Mf,dC fg ft fb itn (aP own.length js δ) [] M1=some (.ok (δf,lf),Mf)∧Go X.mg E (Cv X.mg) Q ρ1 H2 (o.run lf) Mf:=by
  obtain⟨r,e,p⟩:=g2
  have e:DM.bind _ _ M1=some r:=e
  unfold DM.bind at e
  split at e
  ·cases e
  ·rename_i c M' em
   obtain⟨a,M'',_,z⟩:=mY em
   cases z
  ·rename_i a M' em
   obtain⟨a',M'',e1,z⟩:=mY em
   cases z
   exact⟨a.1,a.2,M',e1,r,e,p⟩
 obtain⟨δf,lf,Mf,hrun,g3⟩:=hrun
 unfold newList
 refine wpAny_newObj_type (vU ?_)
 have hlt:∀b∈fp,b<s2.heap.objs.size:=fun b hb=>by
  obtain⟨o,e,_⟩:=Tn.obj _ _ st2 b hb
  exact Heap.lt_size e
 dsimp only
 generalize hP:s2.heap.push { cls:=.type "list",dict:=none,data:=.seq ([]:List Value).toArray }=hp1
 have hCs:hp1.objs.size=s2.heap.objs.size+1:=by rw[←hP,Heap.size_push]
 have hCe:hp1.objs.size+1=(hp1.push { cls:=.type "dict",data:=.dict #[] }).objs.size:=by rw[Heap.size_push]
 have hC:s2.heap.objs.size≤hp1.objs.size:=by lia
 have hne:hp1.objs.size≠s2.heap.objs.size:=by lia
 have old1:∀b o,s2.heap.get? b=some o->hp1.get? b=some o:=fun b o e=>by rw[←hP];exact Heap.get?_push_of_some _ e
 have old:∀b o,s2.heap.get? b=some o->(pushCells (hp1.push { cls:=.type "dict",data:=.dict #[] }) scope.names).get? b=some o:=fun b o e=>pushCells_keeps _ _ _ _ (Heap.get?_push_of_some _ (old1 b o e))
 have new:∃n,(pushCells (hp1.push { cls:=.type "dict",data:=.dict #[] }) scope.names).get? s2.heap.objs.size=some { cls:=.type "list",data:=.seq #[] n }:=⟨_,pushCells_keeps _ _ _ _ (Heap.get?_push_of_some _ (by rw[←hP];exact Heap.get?_push_size _ rfl))⟩
 have ns:(pushCells (hp1.push { cls:=.type "dict",data:=.dict #[] }) scope.names).Ns hp1.objs.size fun _=>none:=(Heap.Ns.new hp1 (.type "dict")).keeps (pushCells_keeps _ _)
 have hfree:H2 s2.heap.objs.size=none:=I2.hok.fresh (Nat.le_refl _)
 have IC:=vK (t':=s2.toks) T I2 f2 hlt old (Nat.le_refl _) hC hne hCe (Nat.le_trans hC (Nat.le_succ _)) (Nat.lt_succ_self _) (Nat.lt_succ_of_le hC) rfl new ns
 have OK:=IC.ok
 have fok:∀H',(∀b∈fp,H' b=none)->∀b∈fp,FpOk (X.bN pins scope (cellsFrom (hp1.objs.size+1) scope.names cl) (own++fr) fp hp1.objs.size s2 H2) [] H' b:=fun H' hn b hb=>by
  obtain⟨_,g2,g3,g4,g5,g6⟩:=f2 b hb
  refine⟨hn b hb,Nat.ne_of_lt (Nat.lt_of_lt_of_le (hlt b hb) hC),fun hm=>?_,.inl hb,(OK.exf b hb).2,fun p hp=>g6 p (by simpa using hp)⟩
  rcases List.mem_cons.mp (I2.stkSub _ hm) with z | z
  ·exact g2 z
  ·exact g3 z
 have fp1:∀b∈fp,upd H2 s2.heap.objs.size (.lst []) b=none:=fun b hb=>by rw[upd_ne (Nat.ne_of_lt (hlt b hb))];exact (f2 b hb).1
 have jb:=j1.begin hfree
 have nf:=j1.fresh hfree
 have st:Cst (X.bN pins scope (cellsFrom (hp1.objs.size+1) scope.names cl) (own++fr) fp hp1.objs.size s2 H2) [] s2.heap.objs.size (ρ1.hold s2.heap.objs.size) (upd H2 s2.heap.objs.size (.lst [])) (aP own.length js δ) [] M1 fp
   { s2 with heap:=pushCells (hp1.push { cls:=.type "dict",data:=.dict #[] }) scope.names,toks:=s2.toks }:=
  ⟨_,_,_,[],IC,.refl (fun z=>nf (.inl z)),jb,(zB (ev.mono x1) _ _).kp (nZ hfree),upd_same,.nil,fp1⟩
 have tn0:tn 0 (pushCells (hp1.push { cls:=.type "dict",data:=.dict #[] }) scope.names):=Tn.keep _ _ _ st2 (fun b _ o e=>old b o e)
 have loop:codeAny (model X.prog X.w) X.A (.compLoop (.ListComp elt (⟨t0,i0,f0,0⟩::gs) scope pos) 0 (.ref it) (.ref s2.heap.objs.size) (compEnvC scope (cellsFrom (hp1.objs.size+1) scope.names cl) hp1.objs.size X.env))
   (compPost (model X.prog X.w) X.A X.xe none (EP X pins σ Q) (.ref s2.heap.objs.size) hp1.objs.size) { s2 with heap:=pushCells (hp1.push { cls:=.type "dict",data:=.dict #[] }) scope.names,toks:=s2.toks }:=by
  refine Dk (X:=X.bN pins scope (cellsFrom (hp1.objs.size+1) scope.names cl) (own++fr) fp hp1.objs.size s2 H2) hc rfl (hturn _ _ _) (hW _ _) (hmono _ _) (hg ..) (ht ..) (hb pins (hp1.objs.size+1) fp hp1.objs.size s2 H2 s2.heap.objs.size) Tn iok (.head _) (nZ hfree) fok st tn0 hrun fun s' c'=>?_
  obtain⟨σ4,H4,ρ4,ys,I4,x4,j4,ev4,ha4,cl4,fr4⟩:=c'.ex
  obtain⟨m4,hn4,_⟩:=I4.loc
  refine⟨m4,hn4,fun h' hsb'=>?_⟩
  have un:=Eu I4.base hsb' hC
  have ok4:=zJ I4.hok hsb' I4.free
  exact⟨.ref s2.heap.objs.size,H4,I2.call' (s':={ s' with heap:=h' }) (ch:=fp) (I4.os) un ok4 I4.bare (fun b hb=>by
   obtain⟨_,g2,g3,g4,g5,g6⟩:=f2 b hb
   exact⟨g4,g2,g5,g6⟩),rfl,o.fin hfree nf x4 j4 ha4 cl4 g3⟩
 show codeAny _ _ (.compStart _ 0 (.ref it) (.ref s2.heap.objs.size) (compEnvC scope (cellsFrom (hp1.objs.size+1) scope.names cl) hp1.objs.size X.env)) _ _
 exact wu rfl rfl loop (Tn.self X.A 0 _ _ _ tn0 loop)⟩
theorem iC{cl:List (Str×Addr)}{own:List Str}{js:List Nat}{fr:List Str}{f0:List Expr}{fi:ao->DM Itn}{fg:D->ao->DM ao}{ft:ao->DM Bool}{fe:ao->DM D}
  (o:Out) (hc:X.calm=true) (T:CompG X scope cl own js fr) (hi:DI X E t0 i0 fi)
  (hg:∀pins m fp C s₂ H₂,DG (X.bN pins scope (cellsFrom m scope.names cl) (own++fr) fp C s₂ H₂) E0 t0 fg) (ht:∀pins m fp C s₂ H₂,DTs (X.bN pins scope (cellsFrom m scope.names cl) (own++fr) fp C s₂ H₂) E0 f0 ft)
  (he:∀pins m fp C s₂ H₂,DE (X.bN pins scope (cellsFrom m scope.names cl) (own++fr) fp C s₂ H₂) E0 elt fe)
  (hs:∀y,foldedSetIterable i0 X.env y=pure y:=by intro _;rfl) :
  DE X E (.ListComp elt [⟨t0,i0,f0,0⟩] scope pos) (fun δ=>fi δ>>=fun it=>dj (dC fg ft (bh fe) it (aP own.length js δ) [])>>=fun p=>o.run p.2):=
 Ft (bodyK:=fun Y acc=>tU elt (.ref acc) Y.env) (W:=fun Y acc P s=>wpAny (model Y.prog Y.w) Y.A (eval elt Y.env) (fun x s1=>wpAny (model Y.prog Y.w) Y.A (call (.builtin "list.append") [.ref acc,x]) (fun _ s2=>P s2) (fun _ _=>False) s1) (fun _ _=>False) s) o hc T hi
  (fun Y it acc=>Hr ..) (fun Y acc=>CP) (fun Y acc P P' s hp h=>wpAny_mono h (fun x s1 h1=>wpAny_mono h1 (fun _ s2 h2=>hp _ h2) fun _ _ z=>z) fun _ _ z=>z) hg ht (fun pins m fp C s₂ H₂ acc=>zA rfl (he ..)) hs
def frz:D->Option (Bool×List D)
 |.tup l=>some (true,l)
 |.lst l=>some (false,l)
 |_=>none
def pairs:List D->List D->List D
 |x::xs,y::ys=>.tup [x,y]::pairs xs ys
 |_,_=>[]
def NT:List D->Option Itn
 |[x,y]=>match frz x,frz y with
   |some (_,l),some (_,m)=>some (.fix (pairs l m))
   |_,_=>none
 |_=>none
section
variable{mg:Str->Option Value}{ρ:Rh}{H:Hp}
theorem Jq{K:PySem.W.Frag}{x:V}{d:D}{b:Bool}{l:List D}(c:Cv mg ρ H x d)(e:frz d=some (b,l)):∃a xs,x=.ref a∧a∉ρ∧H a=some (if b then .tup xs else .lst xs)∧Cvs mg ρ H xs l:=by
 cases c with
 |tup n h c=>cases e;exact⟨_,_,rfl,n,h,c⟩
 |lst n h c=>cases e;exact⟨_,_,rfl,n,h,c⟩
 |_=>cases e
theorem Ho{K:PySem.W.Frag}{b:Bool}{a:Addr}{xs:List V}(h:H a=some (if b then .tup xs else .lst xs)):wW b K H a xs:=by
 cases b with
 |true=>exact SqT.of h
 |false=>exact SqL.of h
end
structure XTab(K:PySem.W.Frag)(mg:Str->Option Value)(ns:List Str)(F:Addr):Prop where
 cls:∀a∈ns,∃C,XCls K mg a C∧XAt K C∧Catches K C F
 kit:∀a∈ns,∀b∈ns,∀C D,mg a=some (.ref C)->mg b=some (.ref D)->PySem.W.kitOne K (.ref C) (.ref D)=some (a==b)
theorem xq{P:Program}{w:World}{K:PySem.W.Frag}{mg:Str->Option Value}{base:Heap}{N:List Str}{qual:Str}{scope:Scope}{f:Addr}{cd:Value}{A:Around}{outer:List Env}{s:Shared}{H:Hp}{E:XK}{ns:List Str}{F:Addr}{x:Str}{np cpos pos:Pos}{e:Expr}{fe:ao->DM D}
  (T:XTab K mg ns F) (hx:x∈ns) (he:DE (cB P w K mg base N qual scope f cd A outer s H E) E e fe)
  (hg:Gl (cB P w K mg base N qual scope f cd A outer s H E) x:=by rfl) (hd:(x==("__debug__":Str))=false:=by decide)
  (hst:starEach [e] (cB P w K mg base N qual scope f cd A outer s H E).env=[(false,eval e (cB P w K mg base N qual scope f cd A outer s H E).env)]:=by rfl) :
  DS (cB P w K mg base N qual scope f cd A outer s H E) E (.Raise (some (.Call (.Name x np) [e] [] cpos)) none pos) (fun δ=>fe δ>>=fun _=>raise x):=by
 obtain⟨C,xc,_,_⟩:=T.cls x hx
 refine⟨PS.mono (L2.Gz xc he.h hg hd hst) fun D σ H h=>?_⟩
 obtain⟨ρ,δ,M,ev,j,g1⟩:=h
 refine⟨ρ,δ,M,ev,j,g1.bind fun ρ1 H1 M1 v d e1 j1 c1 g2=>⟨rfl,?_⟩⟩
 obtain⟨r,er,p⟩:=g2
 cases er
 exact p ρ1 H1 C .refl j1 xc.at_
theorem Ev.forget(h:Ev mg ρ H σ δ):Ev mg ρ H (σ.set i none) (δ.set i none):=by
 refine⟨by rw[List.length_set,List.length_set,h.len],fun j x q=>?_⟩
 by_cases e:j=i
 ·subst e
  have hj:j<(δ.set j none).length:=(List.getElem?_eq_some_iff.mp q).1
  rw[List.length_set] at hj
  rw[List.getElem?_set_self hj] at q
  cases q
 ·rw[List.getElem?_set_ne (fun z=>e z.symm)] at q ⊢
  exact h.val j x q
def J6(i:Nat):Fl->DM Fl
 |.nx δ=>pure (.nx (δ.set i none))
 |.bk δ=>pure (.bk (δ.set i none))
 |.ct δ=>pure (.ct (δ.set i none))
 |.rt d=>pure (.rt d)
def BK(ns:List Str)(n i:Nat)(fb:ao->DM Fl)(fh:Str->ao->DM Fl)(δ:ao):DM Fl:=fun M=>match fb δ M with
 |some (.exc c,M')=>if ns.contains c then (dj (fh c ((List.replicate n none).set i (some (.exn 0))))>>=J6 i) M' else none
 |r=>r
theorem Ji (nl:Nat) {ns:List Str}{fb:ao->DM Fl}{fh:Str->ao->DM Fl}{fy:Addr->Str->ao->DM Fl}{i:Nat}{body suite:List Stmt} (T:XTab X.K X.mg ns F) (hcalm:X.calm=true) (hcells:X.env.cells=[]) (hex:X.ex=[])
  (hst:X.stack=X.env::X.outer) (hfr:X.env.frame=some X.env.locals) (hN:X.N.Nodup) (hi:X.N[i]?=some n) (hk:X.env.kindOf n=some .local) (hm:X.mg x=some (.ref F))
  (hb:∀pins Eh,DSs (X.tryC pins Eh) Eh body fb) (hs:∀c C y oe,c∈ns->X.mg c=some (.ref C)->oe.cls=.ref C->XAt X.K C->DSs (X.sui y oe) E0 (b₀::suite) (fy y c))
  (hy:∀y c M r,fh c ((List.replicate nl none).set i (some (.exn 0))) M=some r->fy y c ((List.replicate nl none).set i (some (.exn y))) M=some r)
  (hnl:X.N.length=nl:=by rfl)    (hg:Gl X x:=by rfl) (hd:(x==("__debug__":Str))=false:=by decide) :
  DS X E (.Try body [.ExceptHandler (some (.Name x np)) (some n) (b₀::suite) p1] [] [] pos) (BK ns nl i fb fh):=⟨by
 subst hnl
 intro pins s σ H D I h
 obtain⟨ρ,δ,M,ev,j,g1⟩:=h
 -- what is wanted of an exception
 let Eh:XK:=fun C' o H'=>∃c C ρ' M' r,c∈ns∧C'=.ref C∧o=none∧X.mg c=some (.ref C)∧J X.mg ρ' M' H'∧(dj (fh c ((List.replicate X.N.length none).set i (some (.exn 0))))>>=J6 i) M'=some r∧qC X.mg ρ' H' D E r
 have key:tS X.mg Eh fb D σ H:=by
  obtain⟨r,e,p⟩:=g1
  unfold BK at e
  split at e
  ·rename_i c M' em
   split at e
   rotate_left
   ·cases e
   rename_i hc
   refine⟨ρ,δ,M,ev,j,_,em,fun ρ' H' C x' j' m=>⟨c,C,ρ',M',r,List.contains_iff_mem.mp hc,rfl,rfl,m,j',e,p.mono x'⟩⟩
  ·rename_i em
   refine⟨ρ,δ,M,ev,j,r,e,?_⟩
   obtain⟨r,M'⟩:=r
   cases r with
   |ok a=>cases a<;>exact p
   |exc c=>exact absurd e (em c M')
 refine L2.Kh (Eh:=Eh) (tb:=tS X.mg Eh fb) (th:=fun y oe D σ H=>∃c C,c∈ns∧X.mg c=some (.ref C)∧oe.cls=.ref C∧XAt X.K C∧tS X.mg E0 (fy y c) D σ H) hcalm hcells hex hst hfr hN hi hk hm (fun pins=>(hb pins Eh).h) (fun y oe pins' s' σ' H' D' I' q=>?_) hg hd pins s σ H D I ⟨key,?_⟩
 ·obtain⟨c,C,hc,m,ho,xa,q⟩:=q
  exact (hs c C y oe hc m ho xa).h pins' s' σ' H' D' I' q
 ·rintro y oe C' H1 hcl _ ⟨c,C,ρ',M',r,hc,rfl,_,m,j',e,p⟩
  obtain⟨C2,xc,xa,ca⟩:=T.cls c hc
  have:C2=C:=by have:=xc.at_;rw[m] at this;cases this;rfl
  subst this
  refine⟨⟨C2,rfl,ca⟩,c,C2,hc,m,hcl,xa,ρ',(List.replicate X.N.length none).set i (some (.exn y)),M',?_,j',?_⟩
  ·refine ⟨by simp,fun k d q=>?_⟩
   by_cases hk':k=i
   ·subst hk'
    have hl:k<(List.replicate X.N.length (none:Option L3.D)).length:=by
     have:=(List.getElem?_eq_some_iff.mp q).1
     rw[List.length_set] at this;exact this
    rw[List.getElem?_set_self hl] at q
    cases q
    refine⟨.ref y,List.getElem?_set_self ?_,.exn y⟩
    rw[List.length_replicate] at hl ⊢;exact hl
   ·rw[List.getElem?_set_ne (fun z=>hk' z.symm),List.getElem?_replicate] at q
    split at q<;>cases q
  ·have e:DM.bind _ _ M'=some r:=e
   unfold DM.bind at e
   split at e
   ·cases e
   ·rename_i em
    obtain⟨_,_,_,z⟩:=mY em
    cases z
   ·rename_i a M'' em0
    obtain⟨a',M3,em,z⟩:=mY em0
    cases z
    refine⟨_,hy y c _ _ em,?_⟩
    cases a with
    |nx δ2=>cases e;exact fun ρ2 H2 σ2 a1 a2 a3=>p ρ2 H2 (σ2.set i none) a1 a2 a3.forget
    |bk δ2=>cases e;exact fun ρ2 H2 σ2 a1 a2 a3=>p ρ2 H2 (σ2.set i none) a1 a2 a3.forget
    |ct δ2=>cases e;exact fun ρ2 H2 σ2 a1 a2 a3=>p ρ2 H2 (σ2.set i none) a1 a2 a3.forget
    |rt d=>cases e;exact fun ρ2 H2 v a1 a2 a3=>p ρ2 H2 v a1 a2 a3⟩
def Aw(ns:List Str)(c:Str):List D->Mo->Option D
 |[.exn _,.cls k],_=>if ns.contains k then some (.bl (c==k)) else none
 |_,_=>none
def uJ(ns:List Str)(y:Addr)(c:Str):List D->Mo->Option D
 |[.exn a,.cls k],_=>if a==y&&ns.contains k then some (.bl (c==k)) else none
 |_,_=>none
theorem Le(a:α)(f:α->DM β):((Pure.pure a:DM α)>>=f)=f a:=rfl
theorem Nj(ns:List Str)(y:Addr)(c k:Str):uJ ns y c [.exn y,.cls k]=Aw ns c [.exn 0,.cls k]:=by
 funext M
 simp[uJ,Aw]
theorem Nk(a:α):(opt (some a):DM α)=Pure.pure a:=rfl
theorem G8(m:DM α)(f:α->DM β)(g:β->DM γ):(m>>=f)>>=g=m>>=fun a=>f a>>=g:=by
 funext M
 show DM.bind (DM.bind m f) g M=DM.bind m (fun a=>DM.bind (f a) g) M
 unfold DM.bind
 cases m M with
 |none=>rfl
 |some r=>obtain⟨r,M'⟩:=r;cases r<;>rfl
theorem vJ {X:Cx}{E:XK}{K:PySem.W.Frag}{mg:Str->Option Value}{ns:List Str}{F y C:Addr}{oe:Obj}{c:Str} (T:XTab K mg ns F) (hc:c∈ns) (hm:mg c=some (.ref C)) (ho:oe.cls=.ref C) (xa:XAt K C) (hp:(y,oe)∈X.pn) (hK:X.K=K:=by rfl) (hM:X.mg=mg:=by rfl):CallD X E (.builtin "isinstance") (fun l=>rd (uJ ns y c l)):=by
 subst hK hM
 exact   CallD.of (Cr hp) fun vs H Q ρ M ds d j cs e q=>by
  unfold uJ at e
  split at e
  ·split at e
   ·rename_i hk
    cases e
    rw[Bool.and_eq_true] at hk
    obtain⟨v,w,rfl,k1,k2⟩:=cs.two
    cases k1
    have ha:=beq_iff_eq.mp hk.1
    subst ha
    cases k2 with | cls h=>
    exact⟨_,_,C,_,rfl,rfl,.inr ⟨_,rfl⟩,ho,xa,T.kit c hc _ (List.contains_iff_mem.mp hk.2) _ _ hm h,q ρ H _ .refl j (.bl _)⟩
   ·cases e
  ·cases e
section
variable{X:Cx}{E:XK}{a b c:Expr}{fa fb fc:ao->DM D}{pos:Pos}
def FZ:D->Mo->Option D
 |.int i,_=>if i.natAbs.log2<1920 then some (.str (toString i)) else none
 |_,_=>none
theorem Jg (ha:DE X E a fa):DE X E (.FormattedValue a (-1) none pos) (fun δ=>fa δ >>= fun x=>rd (FZ x)):=⟨PE.mono (Ka ha.h) fun σ H Q h=>by
 obtain⟨ρ,δ,M,ev,j,g1⟩:=h
 refine⟨ρ,δ,M,ev,j,g1.bind fun ρ1 H1 M1 x dx e1 j1 c1 g2=>?_⟩
 obtain⟨d,e,q⟩:=g2.rd
 unfold FZ at e
 split at e
 ·split at e
  ·cases e;cases c1
   exact⟨_,rfl,‹_›,q ρ1 H1 _ .refl j1 (.str _)⟩
  ·cases e
 ·cases e⟩
def strOf:D->Option Str
 |.str x=>some x
 |_=>none
def Df(fa fb fc:ao->DM D)(δ:ao):DM D:=fa δ>>=fun x=>opt (strOf x)>>=fun a=>(if a.length≤sizeLine then pure () else stuck)>>=fun _=>fb δ>>=fun y=>opt (strOf y)>>=fun b=>(if a.length+b.length≤sizeLine then pure () else stuck)>>=fun _=>fc δ>>=fun z=>opt (strOf z)>>=fun c=>if a.length+b.length+c.length≤sizeLine then pure (.str (Str.empty++a++b++c)) else stuck
theorem Go.strOf(g:Go mg E rel Q ρ H (L3.opt (L3.strOf d)>>=k) M):∃x,d=.str x∧Go mg E rel Q ρ H (k x) M:=by
 cases d with
 |str x=>exact⟨x,rfl,g⟩
 |_=>obtain⟨r,e,_⟩:=g;cases e
theorem Go.ite[Decidable p](g:Go mg E rel Q ρ H (if p then m else stuck) M):p∧Go mg E rel Q ρ H m M:=by
 by_cases h:p
 ·rw[if_pos h] at g;exact⟨h,g⟩
 ·rw[if_neg h] at g;obtain⟨r,e,_⟩:=g;cases e
theorem Go.iteB[Decidable p](g:Go mg E rel Q ρ H ((if p then (Pure.pure ():DM Unit) else stuck)>>=k) M):p∧Go mg E rel Q ρ H (k ()) M:=by
 by_cases h:p
 ·rw[if_pos h] at g;exact⟨h,g⟩
 ·rw[if_neg h] at g;obtain⟨r,e,_⟩:=g;cases e
theorem Fx(ha:DE X E a fa)(hb:DE X E b fb)(hc:DE X E c fc):DE X E (.JoinedStr [a,b,c] pos) (Df fa fb fc):=⟨PE.mono (Gv ha.h hb.h hc.h) fun σ H Q h=>by
 obtain⟨ρ,δ,M,ev,j,g1⟩:=h
 refine⟨ρ,δ,M,ev,j,Go.bind g1 fun ρ1 H1 M1 x dx e1 j1 c1 g2=>?_⟩
 obtain⟨sa,rfl,g2⟩:=g2.strOf
 obtain⟨h1,g2⟩:=g2.iteB
 cases c1
 refine⟨sa,rfl,h1,ρ1,δ,M1,ev.mono e1,j1,g2.bind fun ρ2 H2 M2 y dy e2 j2 c2 g3=>?_⟩
 obtain⟨sb,rfl,g3⟩:=g3.strOf
 obtain⟨h2,g3⟩:=g3.iteB
 cases c2
 refine⟨sb,rfl,h2,ρ2,δ,M2,(ev.mono e1).mono e2,j2,g3.bind fun ρ3 H3 M3 z dz e3 j3 c3 g4=>?_⟩
 obtain⟨sc,rfl,g4⟩:=g4.strOf
 obtain⟨h3,g4⟩:=g4.ite
 cases c3
 exact⟨sc,rfl,h3,g4.pure ρ3 H3 _ .refl j3 (.str _)⟩⟩
def boolsOf:List D->Option (List Bool)
 |[]=>some []
 |.bl b::l=>(boolsOf l).map (b::·)
 |_=>none
theorem rW:∀ {xs:List V}{l:List D}{bs:List Bool},Cvs mg ρ H xs l->boolsOf l=some bs->xs=bs.map V.bl
 |_,_,_,.nil,e=>by cases e;rfl
 | _,_,_,.cons (d:=d) c cs,e=>by
   cases d with
   |bl i=>
     obtain⟨ms,h1,rfl⟩:=Option.map_eq_some_iff.mp e
     cases c
     rw[rW cs h1];rfl
   |_=>cases e
def xg:D->List D->DM D
 |x,[.bl b]=>rd fun M=>(aU x M).bind fun l=>(boolsOf l).map fun bs=>.int (bs.countP (·== b):Nat)
 |_,_=>stuck
theorem Dn:Cg X E "list.count" xg:=by
 intro pins s σ H x xs v us Q I rx rs q
 obtain⟨ρ,M,d,ds,j,cx,cs,g⟩:=q
 cases cs with
 |nil=>obtain⟨r,e,_⟩:=g;cases e
 | cons c cs=>cases cs with
   |cons _ _=>obtain⟨r,e,_⟩:=g;cases c<;>cases e
   | nil=>cases c with
     |bl b=>
       obtain⟨d',e,p⟩:=Go.rd g
       obtain⟨l,h1,e1⟩:=Option.bind_eq_some_iff.mp e
       obtain⟨bs,h2,rfl⟩:=Option.map_eq_some_iff.mp e1
       obtain⟨a,ys,rfl,ha,cl⟩:=dg j cx h1
       have:=rW cl h2
       subst this
       exact Gm (X:=X) pins s σ H _ _ v us Q I rx rs ⟨a,bs,b,rfl,rfl,ha,p ρ H _ .refl j (.int _)⟩
     |_=>obtain⟨r,e,_⟩:=g;cases e
def findB(b:Bool):List Bool->Option Nat
 |[]=>none
 |c::l=>if c==b then some 0 else (findB b l).map (·+ 1)
theorem tX {b:Bool}:∀ {l:List Bool}{n:Nat},findB b l=some n->l[n]?=some b∧∀ m c,m<n->l[m]?=some c->(c == b)=false
 |[],n,h=>by cases h
 | c::l,n,h=>by
   unfold findB at h
   split at h
   ·rename_i hc
    cases h
    exact⟨by rw[beq_iff_eq.mp hc];rfl,fun m c hm=>absurd hm (Nat.not_lt_zero _)⟩
   ·rename_i hc
    obtain⟨k,h1,rfl⟩:=Option.map_eq_some_iff.mp h
    obtain⟨a1,a2⟩:=tX h1
    refine⟨by simpa using a1,fun m c' hm e=>?_⟩
    cases m with
    |zero=>simp at e;subst e;simpa using hc
    |succ m=>exact a2 m c' (by lia) (by simpa using e)
def xM:D->List D->DM D
 |x,[.bl b]=>rd fun M=>(aU x M).bind fun l=>(boolsOf l).bind fun bs=>(findB b bs).bind fun n=>if n<1000 then some (.int (n:Nat)) else none
 |_,_=>stuck
theorem Do:Cg X E "list.index" xM:=by
 intro pins s σ H x xs v us Q I rx rs q
 obtain⟨ρ,M,d,ds,j,cx,cs,g⟩:=q
 cases cs with
 |nil=>obtain⟨r,e,_⟩:=g;cases e
 | cons c cs=>cases cs with
   |cons _ _=>obtain⟨r,e,_⟩:=g;cases c<;>cases e
   | nil=>cases c with
     | bl b=>
       obtain⟨d',e,p⟩:=Go.rd g
       obtain⟨l,h1,e1⟩:=Option.bind_eq_some_iff.mp e
       obtain⟨bs,h2,e2⟩:=Option.bind_eq_some_iff.mp e1
       obtain⟨n,h3,e3⟩:=Option.bind_eq_some_iff.mp e2
       split at e3
       ·rename_i hn
        cases e3
        obtain⟨a,ys,rfl,ha,cl⟩:=dg j cx h1
        have:=rW cl h2
        subst this
        obtain⟨f1,f2⟩:=tX h3
        exact Gn (X:=X) pins s σ H _ _ v us Q I rx rs ⟨a,bs,b,n,rfl,rfl,ha,f1,f2,hn,p ρ H _ .refl j (.int _)⟩
       ·cases e3
     |_=>obtain⟨r,e,_⟩:=g;cases e
end
theorem Hw:DE X E (.Dict [] [] pos) (fun _=>pure (.dic [] [])):=⟨PE.mono pe_dnewK fun σ H Q h=>by
 obtain⟨ρ,δ,M,ev,j,g⟩:=h
 exact fun p hp=>g.pure ρ _ _ (.lay hp) (j.lay _ hp) (.dic (j.fresh hp) upd_same rfl .nil)⟩
theorem Hx:DE X E (.Dict [some (.Constant (.int i) k1 p1)] [.Constant (.int j) k2 p2] pos) (fun _=>pure (.dic [.inl i] [.int j])):=⟨PE.mono (pe_disp (pps_cons pe_int pe_int pps_nil) rfl rfl (by simp) (by show 1≤15;decide)) fun σ H Q h=>by
 obtain⟨ρ,δ,M,ev,jj,g⟩:=h
 refine fun p hp=>⟨upd_same,[(.inl i,.int j)],rfl,(by show 1≤15;decide),?_⟩
 have e:upd (upd H p (HO.dK [])) p (HO.dK (mergeK [] [(.inl i,.int j)]))=upd H p (.dK [(.inl i,.int j)]):=upd_upd
 rw[e]
 exact g.pure ρ _ _ (.lay hp) (jj.lay _ hp) (.dic (ks:=[.inl i]) (xs:=[.int j]) (jj.fresh hp) upd_same rfl (.cons (.int j) .nil))⟩
theorem jk:∀ {names:List (Str×NameKind)}{m:Nat}{y:Str}{c:Addr},(y,c)∈cellsFrom m names []->(y,NameKind.cell)∈names
 |[],_,_,_,h=>nomatch h
 | (n,k)::r,m,y,c,h=>by
   unfold cellsFrom at h
   split at h
   ·rename_i hk
    rw[cH] at h
    rcases List.mem_append.mp h with z | z
    ·exact .tail _ (jk z)
    ·cases List.mem_singleton.mp z
     have hk':k=.cell:=by cases k<;>first | rfl | cases hk
     rw[hk'];exact .head _
   ·exact .tail _ (jk h)
def isC:NameKind->Bool
 |.cell=>true
 |_=>false
theorem Jw(h:isC k=true):k=.cell:=by cases k<;>first | rfl | cases h
theorem H8(h:(names.all fun p=>!isC p.2 || (match names.lookup p.1 with | some k=>isC k | none=>false))=true):∀(m:Nat) y c,(cellsFrom m names []).lookup y=some c->names.lookup y=some .cell:=fun m y c e=>by
 have hm:=jk (PySem.mem_of_lookup e)
 have q:=List.all_eq_true.mp h _ hm
 simp only[isC,Bool.not_true,Bool.false_or] at q
 split at q
 ·rename_i k hk
  rw[hk,Jw q]
 ·cases q
theorem H9{cl:List (Str×Addr)}{names:List (Str×NameKind)}(h:wX (fun p=>(match names.lookup p.1 with | some k=>isC k | none=>false)=false) cl):∀y c,cl.lookup y=some c->names.lookup y≠some .cell:=fun y c e z=>by
 have:=nQ h (y,c) (L2.mem_of_lookup e)
 simp only[z,isC] at this
 cases this
end L3
namespace L3
open PySem PySem.Spec L2
@[simp] theorem au(a:α)(f:α->DM β):((Pure.pure a:DM α)>>=f)=f a:=id rfl
@[simp] theorem aO(m:DM α)(f:α->DM β)(g:β->DM γ):(m>>=f)>>=g=m>>=fun a=>f a>>=g:=G8 m f g
@[simp] theorem gU(a:α):(opt (some a):DM α)=Pure.pure a:=id rfl
@[simp] theorem O2(a:α):dj (Pure.pure a:DM α)=Pure.pure a:=id rfl
@[simp] theorem N5(c:Str)(f:α->DM β):((raise c:DM α)>>=f)=raise c:=id rfl
theorem bH{α:Type}{f:Mo->Option α}{a:α}(h:∀M,f M=some a):(rd f:DM α)=Pure.pure a:=by
 funext M
 show (f M).map _=_
 rw[h M];rfl
@[simp] theorem wH(f g:ao->DM Fl)(δ:ao):mK f g δ=f δ>>=fun r=>match r with
 |.nx δ'=>g δ'
 |r=>Pure.pure r:=id rfl
@[simp] theorem bF(i:Nat)(δ:ao):bY i δ=opt ((δ[i]?).join):=id rfl
@[simp] theorem oE(b:Bool):fW (.bl b)=Pure.pure b:=id rfl
@[simp] theorem DN(p n:Nat)(fb:ao->DM Fl)(ds:List D):aL p n fb ds=if ds.length=p then fb (dI n ds)>>=fun r=>match r with
 |.nx _=>Pure.pure .non
 |.rt d=>Pure.pure d
 |_=>stuck else stuck:=id rfl
@[simp] theorem N6(n:Nat)(ds:List D):dI n ds=ds.map some++List.replicate (n-ds.length) none:=id rfl
@[simp] theorem lu(i:Nat)(d:D)(δ:ao):gN i d δ=Pure.pure (δ.set i (some d)):=id rfl
@[simp] theorem O5(n:Nat)(fs:List D->ao->DM ao)(l:List D)(δ:ao):gT n fs (.tup l) δ=if l.length=n then fs l δ else stuck:=id rfl
@[simp] theorem OD(f:D->ao->DM ao)(fs:List D->ao->DM ao)(d:D)(l:List D)(δ:ao):fu f fs (d::l) δ=f d δ>>=fun δ'=>fs l δ':=id rfl
@[simp] theorem OJ(δ:ao):qH [] δ=Pure.pure δ:=id rfl
@[simp] theorem O3(i j:Nat)(fa:ao->DM (List D))(δ:ao):sJ i j fa δ=fa δ>>=fun l=>match l with
 |[v,w]=>Pure.pure (.nx ((δ.set i (some v)).set j (some w)))
 |_=>stuck:=id rfl
@[simp] theorem wF(i j:Int):(rd (cg (.int i) (.int j)):DM D)=Pure.pure (.int (i+j)):=id rfl
@[simp] theorem Hn(i j:Int):(rd (o4 (.int i) (.int j)):DM D)=Pure.pure (.int (i-j)):=id rfl
@[simp] theorem Ky(i j:Int):(rd (Dl (.int i) (.int j)):DM D)=Pure.pure (.bl (decide (i<j))):=id rfl
@[simp] theorem Nx(i j:Int):(rd (JF (.int i) (.int j)):DM D)=Pure.pure (.bl (decide (i≤j))):=id rfl
@[simp] theorem Nv(i j:Int):(rd (Ha (.int i) (.int j)):DM D)=Pure.pure (.bl (decide (j<i))):=id rfl
@[simp] theorem Ks(i j:Int):(rd (zG (.int i) (.int j)):DM D)=Pure.pure (.bl (decide (j≤i))):=id rfl
@[simp] theorem Hm(i:Int):(rd (Gp (.int i)):DM D)=Pure.pure (.int (-i)):=id rfl
@[simp] theorem Mh(i:Int):(rd (uB [.int i]):DM D)=Pure.pure (.int (if i<0 then -i else i)):=id rfl
@[simp] theorem KC(i j:Int):(rd (Ba [.int i,.int j]):DM D)=Pure.pure (.int (if j > i then j else i)):=id rfl
@[simp] theorem DX(i j:Int):(rd (wD [.int i,.int j]):DM D)=Pure.pure (.int (if j<i then j else i)):=id rfl
theorem ut{i j:Int}(h:0<j):(rd (kJ (.int i) (.int j)):DM D)=Pure.pure (.int (i%j)):=bH fun M=>by simp[dG,h]
theorem oH{i j:Int}(h:f9 i j=true):(rd (gM (.int i) (.int j)):DM D)=Pure.pure (.int (i*j)):=bH fun M=>by simp[dG,h]
theorem yD{i j:Int}(h:qG i j=true):(rd (iV (.int i) (.int j)):DM D)=Pure.pure (.int (i / j)):=bH fun M=>by simp[dG,h]
theorem wG{i j:Int}(h:Hj i j=true):(rd (uT (.int i) (.int j)):DM D)=Pure.pure (.int (i^j.toNat)):=bH fun M=>by simp[dG,h]
theorem bits_le(h:i.natAbs<2^n):Builtin.Int.intBits i≤n:=by
 unfold Builtin.Int.intBits
 split
 ·exact Nat.zero_le _
 ·rename_i h0
  have:i.natAbs≠0:=by intro z;apply h0;simp;lia
  exact (Nat.log2_lt this).mpr h
theorem uN(h:i.natAbs<2^64):f9 i j=true:=by
 unfold f9
 have:¬ (Builtin.Int.intBits i > shortFactorBits):=by have:=bits_le h;unfold shortFactorBits;lia
 simp[this]
theorem uO(h:j.natAbs<2^64):f9 i j=true:=by
 unfold f9
 have:¬ (Builtin.Int.intBits j > shortFactorBits):=by have:=bits_le h;unfold shortFactorBits;lia
 simp[this]
theorem uF(h0:0<j)(h:j.natAbs<2^1000):qG i j=true:=by
 unfold qG
 have a:Builtin.divisionGoesByPylong i j=false:=by
  unfold Builtin.divisionGoesByPylong
  have hj:j.natAbs≠0:=by lia
  have hl:j.natAbs.log2<1000:=(Nat.log2_lt hj).mpr h
  have h0':(j==0)=false:=by simp;lia
  simp only[h0']
  have:¬ (j.natAbs.log2 / 30+1 > 300):=by lia
  simp[this]
 simp[a,h0]
theorem Ea{a b:Nat}(h:a<2^64):(rd (gM (.int (a:Int)) (.int (b:Int))):DM D)=Pure.pure (.int ((a*b:Nat):Int)):=by
 rw[oH (uN (by simpa using h)),Int.natCast_mul]
theorem DQ {a b:Nat} (h0:0<b) (h:b<2 ^ 64):(rd (iV (.int (a:Int)) (.int (b:Int))):DM D)=Pure.pure (.int ((a / b:Nat):Int)):=by
 rw [yD (uF (by omega) (by have:(2:Nat) ^ 64<2 ^ 1000:=by decide +kernel
                           simpa using (by omega:b<2^1000))),Int.natCast_ediv]
theorem DY{a b:Nat}(h0:0<b):(rd (kJ (.int (a:Int)) (.int (b:Int))):DM D)=Pure.pure (.int ((a%b:Nat):Int)):=by
 rw[ut (by lia),Int.natCast_emod]
def nD(n:Nat):D:=.int (n:Int)
def nT(l:List Nat):D:=.tup (l.map nD)
theorem mR{α:Type}{l:List α}{i:Nat}{a:α}(h:l[i]?=some a):atI l (i:Int)=some a:=by
 have hi:=(List.getElem?_eq_some_iff.mp h).1
 unfold atI ixN
 rw[if_pos (by lia),if_pos (by lia)]
 simpa using h
theorem oG{l:List D}{i:Nat}{a:D}(h:l[i]?=some a):(rd (cF (.tup l) (.int (i:Int))):DM D)=Pure.pure a:=bH fun M=>mR h
theorem Bk{l:List D}{i:Nat}{a:D}(h:l[i]?=some a):(rd (cF (.lst l) (.int (i:Int))):DM D)=Pure.pure a:=bH fun M=>mR h
theorem oF{l:List Nat}{i:Nat}{a:Nat}(h:l[i]?=some a):(rd (cF (nT l) (.int (i:Int))):DM D)=Pure.pure (nD a):=oG (by simp[h])
@[simp] theorem Oo(l:List D):(rd (dW [.tup l]):DM D)=Pure.pure (.int (l.length:Int)):=id rfl
@[simp] theorem Om(l:List D):(rd (dW [.lst l]):DM D)=Pure.pure (.int (l.length:Int)):=id rfl
@[simp] theorem Kw(l:List Int):(rd (dW [.scr l]):DM D)=Pure.pure (.int (l.length:Int)):=id rfl
@[simp] theorem qj(l:List D):(rd (uz [.lst l]):DM D)=Pure.pure (.tup l):=id rfl
@[simp] theorem Ou(l:List D):(rd (uz [.tup l]):DM D)=Pure.pure (.tup l):=id rfl
theorem nY:∀l:List Int,intsOf (l.map D.int)=some l
 |[]=>rfl
 |i::l=>by simp[intsOf,nY l]
theorem lQ:∀l:List Nat,intsOf (l.map nD)=some (l.map fun n:Nat=>(n:Int))
 |[]=>rfl
 |i::l=>by simp[intsOf,nD];exact lQ l
theorem sZ:∀l:List Nat,(l.map fun n:Nat=>(n:Int)).sum=((l.sum:Nat):Int)
 |[]=>rfl
 |i::l=>by simp[sZ l]
@[simp] theorem Ec(l:List Nat):(rd (lH [nT l]):DM D)=Pure.pure (nD l.sum):=bH fun M=>by
 show (intsOf (l.map nD)).map _=_
 rw[lQ];simp[nD,sZ]
@[simp] theorem yG(l:List Nat):(rd (lH [.lst (l.map nD)]):DM D)=Pure.pure (nD l.sum):=bH fun M=>by
 show (intsOf (l.map nD)).map _=_
 rw[lQ];simp[nD,sZ]
@[simp] theorem gW{n:Nat}(h:n<2^62):fU [.int (n:Int)]=some (.fix ((List.range n).map nD)):=by
 have:oK (n:Int)=true:=by unfold oK;exact decide_eq_true ⟨by lia,by lia⟩
 simp[fU,this,oJ,nD]
@[simp] theorem Ox(l:List D):jV (.tup l)=some (.fix l):=id rfl
theorem dm(h:l.length≤1000000):fY l=Pure.pure (.tup l):=by
 have:dJ l=true:=by unfold dJ;exact decide_eq_true (by show l.length≤2^24;lia)
 simp[fY,this]
theorem cO(h:l.length≤1000000):dN l=Pure.pure (.lst l):=by
 have:dJ l=true:=by unfold dJ;exact decide_eq_true (by show l.length≤2^24;lia)
 simp[dN,this]
@[simp] theorem fL(fg:D->ao->DM ao)(ft:ao->DM Bool)(fb:ao->List D->DM (ao×List D))(ds:List D)(δ:ao)(l:List D):dC fg ft fb (.fix ds) δ l=aZ fg ft fb ds δ l:=id rfl
theorem sE (S:ao->Prop) (en:D->ao) (p:D->Bool) (e:D->D):∀ (ds:List D) (δ:ao) (l:List D),S δ->l.length + ds.length≤1000000->
  (∀d∈ds,∀δ,S δ->fg d δ=Pure.pure (en d)∧S (en d))->(∀d∈ds,ft (en d)=Pure.pure (p d))->(∀d∈ds,p d=true->fe (en d)=Pure.pure (e d))->∃δ',aZ fg ft (bh fe) ds δ l=Pure.pure (δ',l++(ds.filter p).map e)
 |[],δ,l,_,_,_,_,_=>⟨δ,by simp[aZ]⟩
 | d::ds,δ,l,s,hl,h0,h1,h2=>by
   have a:=h0 d (List.mem_cons_self ..) δ s
   have b:=h1 d (List.mem_cons_self ..)
   have hl':l.length+(ds.length+1)≤1000000:=by simpa using hl
   have lt:l.length<sizeLine:=by show l.length<2^24;lia
   have ih:=fun l' hl'=>sE S en p e ds (en d) l' a.2 hl' (fun x hx=>h0 x (List.mem_cons_of_mem _ hx)) (fun x hx=>h1 x (List.mem_cons_of_mem _ hx)) (fun x hx=>h2 x (List.mem_cons_of_mem _ hx))
   by_cases hp:p d=true
   ·have c:=h2 d (List.mem_cons_self ..) hp
    obtain⟨δ',q⟩:=ih (l++[e d]) (by simp;lia)
    refine⟨δ',?_⟩
    simp[aZ,a.1,b,hp,bh,c,lt,q]
   ·obtain⟨δ',q⟩:=ih l (by lia)
    refine⟨δ',?_⟩
    simp[aZ,a.1,b,hp,q]
@[simp] theorem jc(l:List D):Out.run .val l=Pure.pure (.lst l):=id rfl
theorem Lf{ft:ao->DM Bool}{fe:ao->DM D}{x:Option D}{rest:ao}{ds:List D}(p:D->Bool)(e:D->D)(hl:ds.length≤1000000)(h1:∀d∈ds,ft (some d::rest)=Pure.pure (p d))(h2:∀d∈ds,p d=true->fe (some d::rest)=Pure.pure (e d)){β:Type}{k:ao×List D->DM β}{k':List D->DM β}(hk:∀q,k q=k' q.2) :
  (dj (aZ (gN 0) ft (bh fe) ds (x::rest) [])>>=k)=k' ((ds.filter p).map e):=by
 obtain⟨δ',q⟩:=sE (fg:=gN 0) (ft:=ft) (fe:=fe) (fun δ=>∃x,δ=x::rest) (fun d=>some d::rest) p e ds (x::rest) [] ⟨x,rfl⟩ (by simpa using hl) (fun d _ δ ⟨x,h⟩=>⟨by subst h;rfl,_,rfl⟩) h1 h2
 rw[q];simp[hk]
@[simp] theorem NZ(m:DM α):(m>>=fun a=>(Pure.pure a:DM α))=m:=by
 funext M
 show DM.bind m _ M=m M
 unfold DM.bind
 cases m M with
 |none=>rfl
 |some r=>obtain⟨r,M'⟩:=r;cases r<;>rfl
def cZ:Option D->List D->Option D
 |x,[]=>x
 |_,d::ds=>cZ (some d) ds
theorem Hg {ft:ao->DM Bool}{fe:ao->DM D}{rest:ao} (p:D->Bool) (e:D->D):∀ (ds:List D) (x:Option D) (l:List D),l.length + ds.length≤1000000->(∀ d∈ds,ft (some d::rest)=Pure.pure (p d))->(∀ d∈ds,p d=true->fe (some d::rest)=Pure.pure (e d))->
  aZ (gN 0) ft (bh fe) ds (x::rest) l=Pure.pure (cZ x ds::rest,l++(ds.filter p).map e)
 |[],x,l,_,_,_=>by simp[aZ,cZ]
 | d::ds,x,l,hl,h1,h2=>by
   have b:=h1 d (List.mem_cons_self ..)
   have hl':l.length+(ds.length+1)≤1000000:=by simpa using hl
   have lt:l.length<sizeLine:=by show l.length<2^24;lia
   have ih:=fun l' hl'=>Hg (rest:=rest) p e ds (some d) l' hl' (fun x hx=>h1 x (List.mem_cons_of_mem _ hx)) (fun x hx=>h2 x (List.mem_cons_of_mem _ hx))
   by_cases hp:p d=true
   ·have c:=h2 d (List.mem_cons_self ..) hp
    have q:=ih (l++[e d]) (by simp;lia)
    simp[aZ,b,hp,bh,c,lt,q,cZ]
   ·have q:=ih l (by lia)
    simp[aZ,b,hp,q,cZ]
theorem tQ{ft:ao->DM Bool}{fe:ao->DM D}{x:Option D}{rest:ao}{ds:List D}(p:D->Bool)(e:D->D)(hl:ds.length≤1000000)(h1:∀d∈ds,ft (some d::rest)=Pure.pure (p d))(h2:∀d∈ds,p d=true->fe (some d::rest)=Pure.pure (e d)) :
  dj (aZ (gN 0) ft (bh fe) ds (x::rest) [])=Pure.pure (cZ x ds::rest,(ds.filter p).map e):=by
 rw[Hg p e ds x [] (by simpa using hl) h1 h2];simp
theorem Dq(l:List Nat)(p:D->Bool)(q:Nat->Bool)(h:∀n∈l,p (nD n)=q n):(l.map nD).filter p=(l.filter q).map nD:=by
 rw[List.filter_map]
 congr 1
 exact List.filter_congr fun n hn=>h n hn
theorem JW(l:List Nat)(f:D->D)(g:Nat->Nat)(h:∀n∈l,f (nD n)=nD (g n)):(l.map nD).map f=(l.map g).map nD:=by
 rw[List.map_map,List.map_map]
 exact List.map_congr_left fun n hn=>h n hn
theorem pP{ft:ao->DM Bool}{fe:ao->DM D}{x:Option D}{rest:ao}{l:List Nat}(p:Nat->Bool)(e:Nat->Nat)(hl:l.length≤1000000)(h1:∀n∈l,ft (some (nD n)::rest)=Pure.pure (p n))(h2:∀n∈l,p n=true->fe (some (nD n)::rest)=Pure.pure (nD (e n))) :
  dj (aZ (gN 0) ft (bh fe) (l.map nD) (x::rest) [])=Pure.pure (cZ x (l.map nD)::rest,((l.filter p).map e).map nD):=by
 let u:D->Nat:=fun d=>match d with | .int i=>i.toNat | _=>0
 have hu:∀n:Nat,u (nD n)=n:=fun n=>by simp[u,nD]
 rw[tQ (fun d=>p (u d)) (fun d=>nD (e (u d))) (by simpa using hl) (fun d hd=>?_) (fun d hd hp=>?_)]
 ·rw[Dq l _ p (fun n _=>by rw[hu]),JW _ _ e (fun n _=>by rw[hu])]
 ·obtain⟨n,hn,rfl⟩:=List.mem_map.mp hd
  rw[hu];exact h1 n hn
 ·obtain⟨n,hn,rfl⟩:=List.mem_map.mp hd
  rw[hu] at hp ⊢;exact h2 n hn hp
theorem lO:∀ (as bs:List Int),PyData.eqvAll (as.map .int) (bs.map .int)=decide (as=bs)
 |[],[]=>by simp[PyData.eqvAll]
 |[],b::bs=>by simp[PyData.eqvAll]
 |a::as,[]=>by simp[PyData.eqvAll]
 |a::as,b::bs=>by
   rw[List.map_cons,List.map_cons]
   simp only[PyData.eqvAll,PyData.eqv,lO as bs]
   by_cases h:a=b<;>by_cases h2:as=bs<;>simp[h,h2]
theorem jM:∀l:List Int,gb (l.map D.int)=some (l.map PyData.int)
 |[]=>rfl
 |i::l=>by simp[gb,toPy,jM l]
theorem lay_ints:∀l:List Int,PyData.canLayAll0 (l.map PyData.int)=true
 |[]=>rfl
 |i::l=>by simp[PyData.canLayAll0,PyData.canLay0,lay_ints l]
theorem jK:∀ l:List Int,PyData.depthAll (l.map PyData.int)≤1
 |[]=>by simp[PyData.depthAll]
 |i::l=>by
   have:=jK l
   simp only[List.map_cons,PyData.depthAll,PyData.depth]
   lia
@[simp] theorem Hl(i j:Int):(rd (dF (.int i) (.int j)):DM D)=Pure.pure (.bl (decide (i=j))):=bH fun M=>by
 simp[dF,eqB,eqP,toPy,PyData.canLay0,PyData.depth,PyData.eqv]
 rw[Bool.eq_iff_iff];simp
@[simp] theorem Mj(i j:Int):(rd (du (.int i) (.int j)):DM D)=Pure.pure (.bl (!decide (i=j))):=bH fun M=>by
 simp[du,eqB,eqP,toPy,PyData.canLay0,PyData.depth,PyData.eqv]
 rw[Bool.eq_iff_iff];simp
@[simp] theorem Oz(i j:Str):(rd (dF (.str i) (.str j)):DM D)=Pure.pure (.bl (decide (i=j))):=id rfl
@[simp] theorem O1(i j:Str):(rd (du (.str i) (.str j)):DM D)=Pure.pure (.bl (!decide (i=j))):=id rfl
theorem xx(a b:List Int):eqB (.tup (a.map D.int)) (.tup (b.map D.int))=some (decide (a=b)):=by
 have:=jK a
 have h:∀n,n≤1->1+n≤60:=fun n h=>by lia
 simp only[eqB,eqP,toPy,jM,Option.map_some,PyData.canLay0,lay_ints,PyData.depth,PyData.eqv,lO]
 simp
 lia
theorem qI(l:List Nat):nT l=.tup ((l.map fun n:Nat=>(n:Int)).map D.int):=by simp[nT,nD,Function.comp_def]
theorem rY{a b:List Nat}:(a.map fun n:Nat=>(n:Int))=(b.map fun n:Nat=>(n:Int)) ↔ a=b:=List.map_inj_right fun x y (h:(x:Int)=(y:Int))=>by lia
@[simp] theorem Mi(a b:List Nat):(rd (dF (nT a) (nT b)):DM D)=Pure.pure (.bl (decide (a=b))):=bH fun M=>by
 rw[qI,qI,dF,xx];simp[rY]
@[simp] theorem Ml(a b:List Nat):(rd (du (nT a) (nT b)):DM D)=Pure.pure (.bl (!decide (a=b))):=bH fun M=>by
 rw[qI,qI,du,xx];simp[rY]
theorem Ad:∀l:List Bool,ik (l.map D.bl)=some l
 |[]=>rfl
 |b::l=>by simp[ik,GQ,Ad l]
@[simp] theorem yz(l:List Bool):(rd (pM [.lst (l.map D.bl)]):DM D)=Pure.pure (.bl (l.all id)):=bH fun M=>by
 simp[pM,aU,Ad]
theorem Er:∀ l:List Nat,ik (l.map nD)=some (l.map fun n=>n != 0)
 |[]=>rfl
 |b::l=>by
   simp only[List.map_cons,ik,Er l,nD,GQ]
   congr 2
   rw[Bool.eq_iff_iff];simp
@[simp] theorem Ol(l:List Nat):(rd (Ag [nT l]):DM D)=Pure.pure (.bl (l.any (·!= 0))):=bH fun M=>by
 simp[Ag,nT,Er,List.any_map]
theorem zr:∀ l:List Nat,l.any (·!= 0)=decide (0<l.sum)
 |[]=>rfl
 |a::l=>by
   rw[List.any_cons,zr l,Bool.eq_iff_iff]
   simp only[Bool.or_eq_true,bne_iff_ne,decide_eq_true_eq,ne_eq]
   rw[List.sum_cons]
   lia
theorem cG(h:∀M,tyOf d M=some t)(hc:tys.contains c=true):(rd (kI [d,.ty c]):DM D)=Pure.pure (.bl (BJ t c)):=bH fun M=>by
 simp only[kI,h M,Option.bind_some,hc,if_true]
@[simp] theorem Ot(b:Bool):(rd (s8 (.bl b)):DM Bool)=Pure.pure b:=id rfl
def Nz(d:D):Prop:=∃s,(rd (wI [d]):DM D)=Pure.pure (.str s)
theorem Ej {l:List Int} (h:∀ i∈l,i.natAbs<2 ^ 1000):PyData.showableAll (l.map PyData.int)=true:=by
 induction l with
 |nil=>rfl
 | cons i l ih=>
   have h0:=h i (by simp)
   have:i.natAbs.log2<1920:=by
    rcases Nat.eq_zero_or_pos i.natAbs with z | z
    ·rw[z];decide
    ·exact Nat.lt_of_lt_of_le ((Nat.log2_lt (by lia)).mpr h0) (by decide)
   simp[PyData.showableAll,PyData.showable,this,ih fun i hi=>h i (by simp[hi])]
@[simp] theorem Ov(l m:List D):NT [.tup l,.tup m]=some (.fix (pairs l m)):=id rfl
def Rn{α:Type}(m:DM α)(M:Mo)(Q:α->Mo->Prop):Prop:=∃a M',m M=some (.ok a,M')∧Q a M'
theorem Rn.bind(h:Rn m M Q1)(k:∀a M',Q1 a M'->Rn (f a) M' Q):Rn (m>>=f) M Q:=by
 obtain⟨a,M',e,q⟩:=h
 obtain⟨b,M2,e2,q2⟩:=k a M' q
 refine⟨b,M2,?_,q2⟩
 show DM.bind m f M=_
 unfold DM.bind
 rw[e];exact e2
theorem Rn.pure(q:Q a M):Rn (Pure.pure a) M Q:=⟨a,M,rfl,q⟩
theorem Rn.mono{α:Type}{m:DM α}{Q R:α->Mo->Prop}(h:Rn m M Q)(k:∀a M',Q a M'->R a M'):Rn m M R:=by
 obtain⟨a,M',e,q⟩:=h
 exact⟨a,M',e,k a M' q⟩
theorem Rn.rd(h:f M=some a)(q:Q a M):Rn (L3.rd f) M Q:=⟨a,M,by unfold L3.rd;rw[h];rfl,q⟩
theorem Rn.bindRd(a:α)(h:f M=some a)(q:Rn (k a) M Q):Rn (L3.rd f>>=k) M Q:=Rn.bind (Rn.rd h (Q:=fun b M'=>b=a∧M'=M) ⟨rfl,rfl⟩) (fun b M' ⟨e1,e2⟩=>by rw[e1,e2];exact q)
theorem Rn.call(hp:ds.length=p)(h:Rn (fb (dI n ds)) M fun r M'=>∃d,r=.rt d∧Q d M'):Rn (aL p n fb ds) M Q:=by
 unfold aL
 rw[if_pos hp]
 refine Rn.bind h fun r M' ⟨d,e,q⟩=>?_
 subst e
 exact Rn.pure q
structure Sb(p:Nat)(M M':Mo):Prop where
 le:M.length≤M'.length
 keep:∀q,q≠p->q<M.length->M'[q]?=M[q]?
theorem Sb.refl:Sb p M M:=⟨Nat.le_refl _,fun _ _ _=>rfl⟩
theorem Sb.trans(h:Sb p M M1)(k:Sb p M1 M2):Sb p M M2:=⟨Nat.le_trans h.le k.le,fun q hq hl=>(k.keep q hq (Nat.lt_of_lt_of_le hl h.le)).trans (h.keep q hq hl)⟩
theorem Sb.set:Sb p M (M.set p o):=⟨by simp,fun q hq hl=>List.getElem?_set_ne (fun z=>hq z.symm)⟩
theorem Sb.push:Sb p M (M++[o]):=⟨by simp,fun q hq hl=>List.getElem?_append_left hl⟩
theorem Sb.at(h:Sb p M M')(hq:q≠p)(e:M[q]?=some o):M'[q]?=some o:=(h.keep q hq (List.getElem?_eq_some_iff.mp e).1).trans e
theorem Sb.new(h:M'.length=M.length∨M.length≤M'.length)(hq:M.length≤q)(k:Sb q M' M2)(h1:Sb p M M'):Sb p M M2:=⟨Nat.le_trans h1.le k.le,fun r hr hl=>(k.keep r (by lia) (Nat.lt_of_lt_of_le hl h1.le)).trans (h1.keep r hr hl)⟩
def cC(p:Nat)(M:Mo):Prop:=∃v:Nat,M[p]?=some (.lst [nD v])
theorem cC.lt(h:cC p M):p<M.length:=by obtain⟨v,e⟩:=h;exact (List.getElem?_eq_some_iff.mp e).1
theorem cC.sb(h:cC p M)(s:Sb q M M')(hq:p≠q):cC p M':=by obtain⟨v,e⟩:=h;exact⟨v,s.at hq e⟩
theorem HS(h:l.length≤1000000):dH l M=some (.ok (.ref M.length),M++[.lst l]):=by
 have:dJ l=true:=by unfold dJ;exact decide_eq_true (by show l.length≤2^24;lia)
 unfold dH
 rw[if_pos this]
theorem Rn.dH(h:l.length≤1000000)(q:Rn (k (.ref M.length)) (M++[.lst l]) Q):Rn (L3.dH l>>=k) M Q:=Rn.bind ⟨_,_,HS h,(⟨rfl,rfl⟩:D.ref M.length=.ref M.length∧M++[.lst l]=M++[.lst l])⟩ (Q1:=fun a M'=>a=.ref M.length∧M'=M++[.lst l]) (fun a M' ⟨e1,e2⟩=>by rw[e1,e2];exact q)
theorem fX{n:Nat}{l:List D}{i:Nat}(h:M[n]?=some (.lst l))(hi:l[i]?=some a):cF (.ref n) (.int (i:Int)) M=some a:=by
 show (aU (.ref n) M).bind _=_
 simp only[aU,h,Option.bind_some]
 exact mR hi
theorem Dd(h:i<n):ixN n (i:Int)=some i:=by
 unfold ixN
 rw[if_pos (by lia),if_pos (by lia)];simp
theorem fM{n:Nat}{l:List D}{i:Nat}(h:M[n]?=some (.lst l))(hi:i<l.length):iR (.ref n) (.int (i:Int)) v M=some (.ok (),M.set n (.lst (l.set i v))):=by
 delta iR
 dsimp only
 rw[h]
 dsimp only
 rw[Dd hi]
theorem zu(h:M[n]?=some (.lst l))(hl:l.length<1000000):Fd (.ref n) [v] M=some (.ok .non,M.set n (.lst (l++[v]))):=by
 have:l.length<sizeLine:=by show l.length<2^24;lia
 delta Fd
 dsimp only
 rw[h]
 dsimp only
 rw[if_pos this]
theorem Rn.run(h:m M=some (.ok a,M'))(q:Rn (k a) M' Q):Rn (m>>=k) M Q:=Rn.bind (Q1:=fun b M2=>b=a∧M2=M') ⟨a,M',h,rfl,rfl⟩ (fun b M2 ⟨e1,e2⟩=>by rw[e1,e2];exact q)
theorem cu (I:Nat->ao->Mo->Prop):∀ (ds:List D) (i:Nat) (δ:ao) (M:Mo),I i δ M->(∀ j d δ M,ds[j]?=some d->I (i + j) δ M->Rn (tg d δ >>= fb) M fun r M'=>∃ δ',r=.nx δ'∧I (i + j + 1) δ' M')->Rn (forL tg fb ds δ) M fun r M'=>∃ δ',r=.nx δ'∧I (i + ds.length) δ' M'
 |[],i,δ,M,h,_=>Rn.pure ⟨δ,rfl,h⟩
 | d::ds,i,δ,M,h,st=>by
   have s:=st 0 d δ M rfl h
   have e:forL tg fb (d::ds) δ=(tg d δ>>=fb)>>=fun r=>match r with
    |.nx δ2=>forL tg fb ds δ2
    |.ct δ2=>forL tg fb ds δ2
    |.bk δ2=>Pure.pure (.nx δ2)
    |.rt d=>Pure.pure (.rt d):=by rw[aO];rfl
   rw[e]
   refine Rn.bind s fun r M' ⟨δ',e,h'⟩=>?_
   subst e
   have ih:=cu I ds (i+1) δ' M' h' (fun j d δ M hj hI=>by
    have:=st (j+1) d δ M (by simpa using hj) (by rw[show i+(j+1)=i+1+j by lia];exact hI)
    rw[show i+1+j+1=i+(j+1)+1 by lia];exact this)
   rw[show i+(d::ds).length=i+1+ds.length by simp;lia]
   exact ih
section
variable{X:Cx}{E:XK}
theorem CT:PGet X (fun x y H Q=>∃p xs i v,x=.ref p∧y=.int i∧0≤i∧SqL X.K H p xs∧atI xs i=some v∧Q v H):=by
 intro pins s σ H x y ov iv Q I rx ry h
 obtain⟨p,xs,i,z,rfl,rfl,h0,hq,he,q⟩:=h
 cases rx
 obtain⟨t,rfl⟩:=ry
 obtain⟨its,r,pl,hz⟩:=I.list hq
 obtain⟨j,h1,h2,h3,h4,h5⟩:=atI_get he
 obtain⟨w,ew,rw'⟩:=r.get h2
 have hl:=r.length
 have hn:=line63
 have fin:EP X pins σ Q w s:=⟨z,H,I,rw',q⟩
 have hj:i.toNat=j:=by
  rw[seqIndex_of h0 h5] at h1
  exact Option.some.inj h1
 exact wpAny_getItem_list pl.isList h0 (by lia) (by rw[hj];simpa using ew) fin
def Hb:D->D->Mo->Option D
 |x,.int i,M=>if 0≤i then (aU x M).bind fun l=>atI l i else none
 |_,_,_=>none
theorem Ln:PGet X (rD X.mg E (fun x y=>rd (Hb x y))):=by
 intro pins s σ H x y ov iv Q I rx ry h
 obtain⟨ρ,M,dx,dy,j,cx,cy,go⟩:=h
 obtain⟨d,e,p⟩:=go.rd
 unfold Hb at e
 split at e
 ·cases cy
  split at e
  ·rename_i h0
   obtain⟨l,h1,e1⟩:=Option.bind_eq_some_iff.mp e
   obtain⟨a,xs,rfl,ha,c⟩:=dg j cx h1
   obtain⟨w,e2,cw⟩:=c.at e1
   exact CT (X:=X) pins s σ H _ _ ov iv Q I rx ry ⟨_,_,_,_,rfl,rfl,h0,SqL.of ha,e2,p ρ H _ .refl j cw⟩
  ·cases e
 ·cases e
theorem uG(ho:DE X E o fo)(hi:DE X E i fi)(hop:bW X E (inplaceOp op) gop)(he:DE X E e fe)
  (ha:∀ov iv new,augStore i ov iv new=(do holding [new,ov,iv] (setItem ov iv new);release [new,ov,iv] [];pure .next):=by intros;rfl) :
  DS X E (.AugAssign (.Subscript o i tpos) op e pos) (fun δ=>fo δ>>=fun a=>fi δ>>=fun k=>rd (Hb a k)>>=fun x=>fe δ>>=fun y=>gop x y>>=fun z=>iR a k z>>=fun _=>pure (.nx δ)):=
 ⟨PS.mono (ps_augS (tip:=rD X.mg E gop) ho.h hi.h (Ln (E:=E)) he.h hop (lZ (E:=E)) ha) fun D σ H h=>by
  obtain⟨ρ,δ,M,ev,j,g1⟩:=h
  refine⟨ρ,δ,M,ev,j,g1.bind fun ρ1 H1 M1 a da e1 j1 c1 g2=>⟨ρ1,δ,M1,ev.mono e1,j1,g2.bind fun ρ2 H2 M2 k dk e2 j2 c2 g3=>⟨ρ2,M2,da,dk,j2,c1.mono e2,c2,g3.bind fun ρ3 H3 M3 x dx e3 j3 c3 g4=>?_⟩⟩⟩
  have ev3:=((ev.mono e1).mono e2).mono e3
  refine⟨ρ3,δ,M3,ev3,j3,g4.bind fun ρ4 H4 M4 y dy e4 j4 c4 g5=>⟨ρ4,M4,dx,dy,j4,c3.mono e4,c4,g5.bind fun ρ5 H5 M5 z dz e5 j5 c5 g6=>?_⟩⟩
  refine⟨ρ5,M5,da,dk,dz,j5,(((c1.mono e2).mono e3).mono e4).mono e5,((c2.mono e3).mono e4).mono e5,c5,g6.bind fun ρ6 H6 M6 _ _ e6 j6 _ g7=>?_⟩
  exact g7.pure ρ6 H6 σ .refl j6 (((ev3.mono e4).mono e5).mono e6)⟩
end
end L3
namespace L3
open PySem PySem.Spec L2
open PyProof.Rows hiding St
theorem Ck:bootBuiltins "enumerate"=some (.type "enumerate"):=by decide +kernel
def iG(i:Nat):List D->List D
 |[]=>[]
 |x::xs=>.tup [.int (i:Int),x]::iG (i+1) xs
def tV:List D->Option Itn
 |[x]=>(frz x).map fun p=>.fix (iG 0 p.2)
 |_=>none
theorem uQ:∀ (l:List D) (k i:Nat),(iG k l)[i]?=(l[i]?).map fun x=>.tup [.int ((k + i:Nat):Int),x]
 |[],k,i=>by simp[iG]
 |x::xs,k,0=>by simp[iG]
 |x::xs,k,i+1=>by
   simp only[iG,List.getElem?_cons_succ,uQ xs (k+1) i]
   rw[show k+1+i=k+(i+1) by lia]
theorem HH{mg:Str->Option Value}{ρ:Rh}{H:Hp}{K:PySem.W.Frag}{b:Bool}{l:Addr}{xs:List V}{ds:List D}(n1:l∉ρ)(h1:H l=some (if b then .tup xs else .lst xs))(c1:Cvs mg ρ H xs ds):ItOk mg ρ H (Mw K b l) (.fix (iG 0 ds)) where
 item:=fun i ρ' H' M' d e j q=>by
  have hq:(iG 0 ds)[i]?=some d:=Option.some.inj q
  rw[uQ] at hq
  obtain⟨dx,e1,rfl⟩:=Option.map_eq_some_iff.mp hq
  obtain⟨x,hx,cx⟩:=c1.get e1
  have k1:=(e.keep _ _ h1 n1).2
  refine⟨⟨xs,x,Ho k1,hx⟩,fun v H2 z=>?_⟩
  obtain⟨p,hp,rfl,z⟩:=z
  obtain⟨x',hx',rfl⟩:=z xs (Ho k1)
  rw[hx] at hx';cases hx'
  rw[Nat.zero_add]
  exact⟨.lay hp,j.lay _ hp,.tup (j.fresh hp) upd_same (.cons (.int _) (.cons ((cx.kp e).mono (.lay hp)) .nil))⟩
 stop:=fun i ρ' H' M' e j q=>by
  have hq:(iG 0 ds)[i]?=none:=Option.some.inj q
  rw[uQ,Option.map_eq_none_iff] at hq
  exact⟨xs,Ho (e.keep _ _ h1 n1).2,List.getElem?_eq_none_iff.mpr (by rw[c1.len];exact List.getElem?_eq_none_iff.mp hq)⟩
theorem zz(hg:Gl X "enumerate")(hm:X.mg "enumerate"=none)(ha:DA X E [a] fa)(hs:notStar a=true:=by rfl) :
  DI X E (.Tuple elts kt tp) (.Call (.Name "enumerate" p) [a] [] pos) (fun δ=>fa δ>>=fun l=>opt (tV l)):=⟨by
 intro pins s σ H R I h
 obtain⟨ρ,δ,M,ev,j,g1⟩:=h
 refine Call_ (ld_blt I hg hm Ck (PyProof.Rows.callWith_type1 (thn (ha.h.h pos pins s σ H (fun vs H1=>∃ρ1 M1 ds,Ext ρ H ρ1 H1∧J X.mg ρ1 M1 H1∧Cvs X.mg ρ1 H1 vs ds∧Go X.mg E (ItOk X.mg) R ρ1 H1 (opt (tV ds)) M1) I ⟨ρ,δ,M,ev,j,g1.bind fun ρ1 H1 M1 vs ds e1 j1 c1 g2=>⟨ρ1,M1,ds,e1,j1,c1,g2⟩⟩) fun us s1 h1=>?_) (b7 hs) (by rfl)))
 obtain⟨vs,H1,I1,rv,ρ1,M1,ds,e1,j1,c1,g2⟩:=h1
 obtain⟨itn,ei,q⟩:=g2.opt
 unfold tV at ei
 split at ei
 rotate_left
 ·cases ei
 obtain⟨⟨b,l⟩,f1,rfl⟩:=Option.map_eq_some_iff.mp ei
 cases c1 with
 |cons k1 c1=>
 cases c1
 obtain⟨a1,xs,rfl,n1,h1,cx⟩:=Jq (K:=X.K) k1 f1
 cases rv with
 |cons r1 rv=>
 cases rv
 cases r1
 obtain⟨its1,w1,p1,_⟩:=I1.seqS (Ho (K:=X.K) h1)
 refine Aj p1 fun h' a1' a2' a3 a4=>wpAny_pyIter_enum a1' ?_
 have lt1:@LT.lt Nat _ a1 s1.heap.objs.size:=p1.lt
 have I2:Inv X pins σ H1 { s1 with heap:=h' }:=I1.kept (t':=s1.toks) a4
 refine⟨_,_,_,_,H1,rfl,I2,Et (b:=b) (e:=s1.heap.objs.size+1) (it:=s1.heap.objs.size) (l:=a1) (fun (h:@Eq Nat _ _)=>by lia) (fun (h:@Eq Nat _ _)=>by lia) (fun (h:@Eq Nat _ _)=>by lia),⟨⟨_,a1'⟩,a2'.1⟩,fun b hb=>?_,q ρ1 H1 _ .refl j1 (HH n1 h1 cx)⟩
 refine I1.fpOk ?_ (I1.hok.fresh ?_)<;>(simp only[List.mem_cons,List.mem_nil_iff,or_false] at hb;rcases hb with rfl | rfl<;>lia)⟩
theorem Fv {i:Nat}{cl:List (Str×Addr)}{own:List Str}{js:List Nat}{fr:List Str}{f0:List Expr}{gs:List Comprehension}{fi:ao->DM Itn}{fg:D->ao->DM ao}{ft:ao->DM Bool}{fb:ao->List D->DM (ao×List D)}
  {bodyK:Cx->Addr->Sem Fin->Sem Fin}{W:Cx->Addr->(Shared->Prop)->Shared->Prop} (o:Out) (hN:X.N.Nodup) (hi0:X.N[i]?=some x) (hx:Loc X.env.scope x) (hc:X.calm=true) (T:CompG X scope cl own js fr) (hi:DI X E t0 i0 fi)
  (hturn:∀(Y:Cx) it acc,compTurn (.ListComp elt (⟨t0,i0,f0,0⟩::gs) scope pos) 0 (.ref it) (.ref acc) Y.env=turnOf ⟨t0,i0,f0,0⟩ (bodyK Y acc) (.compLoop (.ListComp elt (⟨t0,i0,f0,0⟩::gs) scope pos) 0 (.ref it) (.ref acc) Y.env) (.ref it) Y.env)
  (hW:∀Y acc,tH Y.prog Y.w Y.A (bodyK Y acc) (W Y acc)) (hmono:∀Y acc P P' s,(∀s,P s->P' s)->W Y acc P s->W Y acc P' s)
  (hg:∀pins m fp C s₂ H₂,DG (X.bN pins scope (cellsFrom m scope.names cl) (own++fr) fp C s₂ H₂) E0 t0 fg) (ht:∀pins m fp C s₂ H₂,DTs (X.bN pins scope (cellsFrom m scope.names cl) (own++fr) fp C s₂ H₂) E0 f0 ft)
  (hb:∀pins m fp C s₂ H₂ acc,BodyOk (X.bN pins scope (cellsFrom m scope.names cl) (own++fr) fp C s₂ H₂) acc (W (X.bN pins scope (cellsFrom m scope.names cl) (own++fr) fp C s₂ H₂) acc) fb)
  (hsw:swapsWith (.ListComp elt (⟨t0,i0,f0,0⟩::gs) scope pos) (some (.Name x px)) spos.line X.env=pure true:=by rfl)
  (hs:∀y,foldedSetIterable i0 X.env y=pure y:=by intro _;rfl) (hf:X.fn x=true∨X.env.scope.names.lookup x=some .local:=by first | exact .inl rfl | exact .inr rfl | assumption) :
  DS X E (.Assign [.Name x px] (.ListComp elt (⟨t0,i0,f0,0⟩::gs) scope pos) spos) (fun δ=>(fi δ>>=fun it=>dj (dC fg ft fb it (aP own.length js δ) [])>>=fun p=>o.run p.2)>>=fun d=>pure (.nx (δ.set i (some d)))):=⟨by
 intro pins s σ H D I h
 obtain⟨ρ,δ,M,ev,j,g0⟩:=h
 let Q:VK:=fun v H'=>D.nx (σ.set i (some v)) H'
 have g1:Go X.mg E (Cv X.mg) Q ρ H (fi δ>>=fun it=>dj (dC fg ft fb it (aP own.length js δ) [])>>=fun p=>o.run p.2) M:=g0.bind fun ρ1 H1 M1 v d e1 j1 c1 g2=>g2.pure ρ1 H1 _ .refl j1 ((ev.mono e1).set c1)
 rw[exec_Assign_Name_used _ _ _ _ hsw]
 refine wpAny_bind (wpAny_standAt (wpAny_bind ?_))
 show wpAny _ _ (do let _ ←comprehension (.ListComp elt (⟨t0,i0,f0,0⟩::gs) scope pos) scope X.env _ (newList []) false (eval i0 X.env) (some (assign (.Name x px) X.env))) _ _ s
 refine wpAny_bind (wpAny_mono (wpAny_comprehension_free (cl:=cl) (use:=some (assign (.Name x px) X.env)) (Q:=fun _ s'=>∃v H',Inv X pins (σ.set i (some v)) H' s'∧Q v H') rfl hs T.clos T.kind T.names ?_) (fun _ s' ⟨v,H',I',q'⟩=>wpAny_pure (wpAny_pure ⟨_,H',I',q'⟩)) fun _ _ e=>e)
 refine thn (hi.h pins s σ H (fun Jt H1=>∃ρ1 M1 it,Ext ρ H ρ1 H1∧J X.mg ρ1 M1 H1∧ItOk X.mg ρ1 H1 Jt it∧Go X.mg E (Cv X.mg) Q ρ1 H1 (dj (dC fg ft fb it (aP own.length js δ) [])>>=fun p=>o.run p.2) M1) I
  ⟨ρ,δ,M,ev,j,g1.bind fun ρ1 H1 M1 Jt it e1 j1 iok g2=>⟨ρ1,M1,it,e1,j1,iok,g2⟩⟩) fun v s1 h1=>thn h1 fun itv s2 h2=>?_
 obtain⟨it,fp,tn,Jt,H2,rfl,I2,Tn,st2,f2,ρ1,M1,itn,x1,j1,iok,g2⟩:=h2
 have hrun:∃δf lf Mf,dC fg ft fb itn (aP own.length js δ) [] M1=some (.ok (δf,lf),Mf)∧Go X.mg E (Cv X.mg) Q ρ1 H2 (o.run lf) Mf:=by
  obtain⟨r,e,p⟩:=g2
  have e:DM.bind _ _ M1=some r:=e
  unfold DM.bind at e
  split at e
  ·cases e
  ·rename_i c M' em
   obtain⟨a,M'',_,z⟩:=mY em
   cases z
  ·rename_i a M' em
   obtain⟨a',M'',e1,z⟩:=mY em
   cases z
   exact⟨a.1,a.2,M',e1,r,e,p⟩
 obtain⟨δf,lf,Mf,hrun,g3⟩:=hrun
 unfold newList
 refine wpAny_newObj_type (vU ?_)
 have hlt:∀b∈fp,b<s2.heap.objs.size:=fun b hb=>by
  obtain⟨o,e,_⟩:=Tn.obj _ _ st2 b hb
  exact Heap.lt_size e
 dsimp only
 generalize hP:s2.heap.push { cls:=.type "list",dict:=none,data:=.seq ([]:List Value).toArray }=hp1
 have hCs:hp1.objs.size=s2.heap.objs.size+1:=by rw[←hP,Heap.size_push]
 have hCe:hp1.objs.size+1=(hp1.push { cls:=.type "dict",data:=.dict #[] }).objs.size:=by rw[Heap.size_push]
 have hC:s2.heap.objs.size≤hp1.objs.size:=by lia
 have hne:hp1.objs.size≠s2.heap.objs.size:=by lia
 have old1:∀b o,s2.heap.get? b=some o->hp1.get? b=some o:=fun b o e=>by rw[←hP];exact Heap.get?_push_of_some _ e
 have old:∀b o,s2.heap.get? b=some o->(pushCells (hp1.push { cls:=.type "dict",data:=.dict #[] }) scope.names).get? b=some o:=fun b o e=>pushCells_keeps _ _ _ _ (Heap.get?_push_of_some _ (old1 b o e))
 have new:∃n,(pushCells (hp1.push { cls:=.type "dict",data:=.dict #[] }) scope.names).get? s2.heap.objs.size=some { cls:=.type "list",data:=.seq #[] n }:=⟨_,pushCells_keeps _ _ _ _ (Heap.get?_push_of_some _ (by rw[←hP];exact Heap.get?_push_size _ rfl))⟩
 have ns:(pushCells (hp1.push { cls:=.type "dict",data:=.dict #[] }) scope.names).Ns hp1.objs.size fun _=>none:=(Heap.Ns.new hp1 (.type "dict")).keeps (pushCells_keeps _ _)
 have hfree:H2 s2.heap.objs.size=none:=I2.hok.fresh (Nat.le_refl _)
 have IC:=vK (t':=s2.toks) T I2 f2 hlt old (Nat.le_refl _) hC hne hCe (Nat.le_trans hC (Nat.le_succ _)) (Nat.lt_succ_self _) (Nat.lt_succ_of_le hC) rfl new ns
 have OK:=IC.ok
 have fok:∀H',(∀b∈fp,H' b=none)->∀b∈fp,FpOk (X.bN pins scope (cellsFrom (hp1.objs.size+1) scope.names cl) (own++fr) fp hp1.objs.size s2 H2) [] H' b:=fun H' hn b hb=>by
  obtain⟨_,g2,g3,g4,g5,g6⟩:=f2 b hb
  refine⟨hn b hb,Nat.ne_of_lt (Nat.lt_of_lt_of_le (hlt b hb) hC),fun hm=>?_,.inl hb,(OK.exf b hb).2,fun p hp=>g6 p (by simpa using hp)⟩
  rcases List.mem_cons.mp (I2.stkSub _ hm) with z | z
  ·exact g2 z
  ·exact g3 z
 have fp1:∀b∈fp,upd H2 s2.heap.objs.size (.lst []) b=none:=fun b hb=>by rw[upd_ne (Nat.ne_of_lt (hlt b hb))];exact (f2 b hb).1
 have jb:=j1.begin hfree
 have nf:=j1.fresh hfree
 have st:Cst (X.bN pins scope (cellsFrom (hp1.objs.size+1) scope.names cl) (own++fr) fp hp1.objs.size s2 H2) [] s2.heap.objs.size (ρ1.hold s2.heap.objs.size) (upd H2 s2.heap.objs.size (.lst [])) (aP own.length js δ) [] M1 fp
   { s2 with heap:=pushCells (hp1.push { cls:=.type "dict",data:=.dict #[] }) scope.names,toks:=s2.toks }:=
  ⟨_,_,_,[],IC,.refl (fun z=>nf (.inl z)),jb,(zB (ev.mono x1) _ _).kp (nZ hfree),upd_same,.nil,fp1⟩
 have tn0:tn 0 (pushCells (hp1.push { cls:=.type "dict",data:=.dict #[] }) scope.names):=Tn.keep _ _ _ st2 (fun b _ o e=>old b o e)
 have loop:codeAny (model X.prog X.w) X.A (.compLoop (.ListComp elt (⟨t0,i0,f0,0⟩::gs) scope pos) 0 (.ref it) (.ref s2.heap.objs.size) (compEnvC scope (cellsFrom (hp1.objs.size+1) scope.names cl) hp1.objs.size X.env))
   (compPost (model X.prog X.w) X.A X.xe (some (assign (.Name x px) X.env)) (fun _ s'=>∃v H',Inv X pins (σ.set i (some v)) H' s'∧Q v H') (.ref s2.heap.objs.size) hp1.objs.size) { s2 with heap:=pushCells (hp1.push { cls:=.type "dict",data:=.dict #[] }) scope.names,toks:=s2.toks }:=by
  refine Dk (X:=X.bN pins scope (cellsFrom (hp1.objs.size+1) scope.names cl) (own++fr) fp hp1.objs.size s2 H2) hc rfl (hturn _ _ _) (hW _ _) (hmono _ _) (hg ..) (ht ..) (hb pins (hp1.objs.size+1) fp hp1.objs.size s2 H2 s2.heap.objs.size) Tn iok (.head _) (nZ hfree) fok st tn0 hrun fun s' c'=>?_
  obtain⟨σ4,H4,ρ4,ys,I4,x4,j4,ev4,ha4,cl4,fr4⟩:=c'.ex
  obtain⟨m4,hn4,_⟩:=I4.loc
  have hsb0:Heap.SameBut hp1.objs.size s'.heap s'.heap:=⟨rfl,fun _ _=>rfl⟩
  have un:=Eu I4.base hsb0 hC
  have ok4:=zJ I4.hok hsb0 I4.free
  have IO:Inv X pins σ H4 s':=I2.call' (s':=s') (ch:=fp) (I4.os) un ok4 I4.bare (fun b hb=>by
   obtain⟨_,g2,g3,g4,g5,g6⟩:=f2 b hb
   exact⟨g4,g2,g5,g6⟩)
  have fC:FpOk X pins H4 hp1.objs.size:=I2.fpOk hC I4.free
  obtain⟨fC1,fC2,fC3,fC4,fC5,fC6⟩:=fC
  show wpAny _ _ (assign (.Name x px) X.env (.ref s2.heap.objs.size)) _ _ s'
  refine wpAny_assign_Name (store_ok2 IO hN hi0 hx (v:=.ref s2.heap.objs.size) rfl (fun s'' I'' hsb=>?_) hf)
  obtain⟨a,sb,ha⟩:=hsb
  have nC:hp1.objs.size≠a:=by
   rcases ha with z | z
   ·rw[z];exact fC2
   ·exact fun e=>fC5 x a z e.symm
  refine⟨m4,hn4.sameBut sb nC,fun h' hsb'=>⟨.ref s2.heap.objs.size,H4,?_,o.fin hfree nf x4 j4 ha4 cl4 g3⟩⟩
  exact I''.turned (it:=hp1.objs.size) (t':=s''.toks) (fun b o hb e=>hsb'.extBut b o hb e) fC1 fC2 fC4 (fun y c e=>fC5 y c e) fC6
 show codeAny _ _ (.compStart _ 0 (.ref it) (.ref s2.heap.objs.size) (compEnvC scope (cellsFrom (hp1.objs.size+1) scope.names cl) hp1.objs.size X.env)) _ _
 exact wu rfl rfl loop (Tn.self X.A 0 _ _ _ tn0 loop)⟩
theorem km{i:Nat}{cl:List (Str×Addr)}{own:List Str}{js:List Nat}{fr:List Str}{f0:List Expr}{fi:ao->DM Itn}{fg:D->ao->DM ao}{ft:ao->DM Bool}{fe:ao->DM D}
  (o:Out) (hN:X.N.Nodup) (hi0:X.N[i]?=some x) (hx:Loc X.env.scope x) (hc:X.calm=true) (T:CompG X scope cl own js fr) (hi:DI X E t0 i0 fi)
  (hg:∀pins m fp C s₂ H₂,DG (X.bN pins scope (cellsFrom m scope.names cl) (own++fr) fp C s₂ H₂) E0 t0 fg) (ht:∀pins m fp C s₂ H₂,DTs (X.bN pins scope (cellsFrom m scope.names cl) (own++fr) fp C s₂ H₂) E0 f0 ft)
  (he:∀pins m fp C s₂ H₂,DE (X.bN pins scope (cellsFrom m scope.names cl) (own++fr) fp C s₂ H₂) E0 elt fe)
  (hsw:swapsWith (.ListComp elt [⟨t0,i0,f0,0⟩] scope pos) (some (.Name x px)) spos.line X.env=pure true:=by rfl)
  (hs:∀y,foldedSetIterable i0 X.env y=pure y:=by intro _;rfl) (hf:X.fn x=true∨X.env.scope.names.lookup x=some .local:=by first | exact .inl rfl | exact .inr rfl | assumption) :
  DS X E (.Assign [.Name x px] (.ListComp elt [⟨t0,i0,f0,0⟩] scope pos) spos) (fun δ=>(fi δ>>=fun it=>dj (dC fg ft (bh fe) it (aP own.length js δ) [])>>=fun p=>o.run p.2)>>=fun d=>pure (.nx (δ.set i (some d)))):=
 Fv (bodyK:=fun Y acc=>tU elt (.ref acc) Y.env) (W:=fun Y acc P s=>wpAny (model Y.prog Y.w) Y.A (eval elt Y.env) (fun x s1=>wpAny (model Y.prog Y.w) Y.A (call (.builtin "list.append") [.ref acc,x]) (fun _ s2=>P s2) (fun _ _=>False) s1) (fun _ _=>False) s) o hN hi0 hx hc T hi
  (fun Y it acc=>Hr ..) (fun Y acc=>CP) (fun Y acc P P' s hp h=>wpAny_mono h (fun x s1 h1=>wpAny_mono h1 (fun _ s2 h2=>hp _ h2) fun _ _ z=>z) fun _ _ z=>z) hg ht (fun pins m fp C s₂ H₂ acc=>zA rfl (he ..)) hsw hs hf
end L3
namespace L3
open PySem PySem.Spec L2
theorem dM (I:Nat->ao->List D->Mo->Prop):∀ (ds:List D) (i:Nat) (δ:ao) (l:List D) (M:Mo),I i δ l M->
  (∀j d δ l M,ds[j]?=some d->I (i+j) δ l M->Rn (fg d δ>>=fun δ1=>ft δ1>>=fun b=>if b then fb δ1 l else Pure.pure (δ1,l)) M fun p M'=>I (i+j+1) p.1 p.2 M')->Rn (aZ fg ft fb ds δ l) M fun p M'=>I (i+ds.length) p.1 p.2 M'
 |[],i,δ,l,M,h,_=>Rn.pure h
 | d::ds,i,δ,l,M,h,st=>by
   have s:=st 0 d δ l M rfl h
   have e:aZ fg ft fb (d::ds) δ l=(fg d δ>>=fun δ1=>ft δ1>>=fun b=>if b then fb δ1 l else Pure.pure (δ1,l))>>=fun p=>aZ fg ft fb ds p.1 p.2:=by
    rw[aO]
    show (fg d δ>>=fun δ1=>ft δ1>>=fun b=>(if b then fb δ1 l else Pure.pure (δ1,l))>>=fun p=>aZ fg ft fb ds p.1 p.2)=_
    congr 1
    funext δ1
    rw[aO]
   rw[e]
   refine Rn.bind s fun p M' h'=>?_
   have ih:=dM I ds (i+1) p.1 p.2 M' h' (fun j d δ l M hj hI=>by
    have:=st (j+1) d δ l M (by simpa using hj) (by rw[show i+(j+1)=i+1+j by lia];exact hI)
    rw[show i+1+j+1=i+(j+1)+1 by lia];exact this)
   rw[show i+(d::ds).length=i+1+ds.length by simp;lia]
   exact ih
theorem dY(h:Rn m M Q):Rn (dj m) M Q:=by
 obtain⟨a,M',e,q⟩:=h
 exact⟨a,M',by unfold dj;rw[e],q⟩
theorem uL{n:Nat}{l:List D}{i:Nat}(h:M[n]?=some (.lst l))(hi:l[i]?=some a):Hb (.ref n) (.int (i:Int)) M=some a:=by
 show (if (0:Int)≤(i:Int) then (aU (.ref n) M).bind _ else none)=_
 rw[if_pos (by lia)]
 simp only[aU,h,Option.bind_some]
 exact mR hi
theorem xT(hn:n≤1000)(q:Rn (k (.ref M.length)) (M++[.lst ((List.replicate n 0).map nD)]) Q):Rn (uP (.lst [.int 0]) (nD n)>>=k) M Q:=by
 have e:sG (.lst [.int 0]) (nD n) M=some ((List.replicate n 0).map nD):=by
  show Bo [.int 0] (n:Int)=_
  unfold Bo
  rw[if_pos (decide_eq_true ⟨by lia,by lia,by show _≤2^24;simp;lia⟩)]
  congr 1
  simp[List.flatten_replicate_singleton,nD]
 show Rn ((rd (sG (.lst [.int 0]) (nD n))>>=dH)>>=k) M Q
 rw[aO]
 refine Rn.bindRd _ e ?_
 exact Rn.dH (by simp;lia) q
end L3
namespace L3
open PySem PySem.Spec L2
open PyProof.Rows hiding St
def MK(c:Str):DM D:=fun M=>some (.ok (.ref M.length),M++[.ins c [] []])
end L3
namespace L3
open PySem PySem.Spec L2
theorem vQ:∀ {l:List D}{ns:List Int},intsOf l=some ns->l=ns.map D.int
 |[],ns,e=>by cases e;rfl
 | d::l,ns,e=>by
   cases d with
   |int i=>
     simp only[intsOf,Option.map_eq_some_iff] at e
     obtain⟨ms,h,rfl⟩:=e
     rw[vQ h];rfl
   |_=>simp[intsOf] at e
theorem xj:∀ {ns:List Int}{xs:List V},Cvs mg ρ H xs (ns.map D.int)->xs=ns.map V.int
 |[],_,.nil=>rfl
 |n::ns,_,.cons a t=>by
   cases a
   rw[xj t];rfl
theorem pY(h:l.length=1):∃a,l=[a]:=match l,h with | [a],_=>⟨a,rfl⟩
theorem JK(h:l.length=2):∃a b,l=[a,b]:=match l,h with | [a,b],_=>⟨a,b,rfl⟩
theorem JL(h:l.length=3):∃a b c,l=[a,b,c]:=match l,h with | [a,b,c],_=>⟨a,b,c,rfl⟩
theorem JN(h:l.length=4):∃a b c d,l=[a,b,c,d]:=match l,h with | [a,b,c,d],_=>⟨a,b,c,d,rfl⟩
end L3
namespace L2
open PySem PySem.Spec PyProof.Rows
end L2
namespace L3
open PySem PySem.Spec L2
end L3
namespace L2
open PySem PySem.Spec PyProof.Rows
end L2
namespace L3
open PySem PySem.Spec L2
def Lw(i j k:Nat)(fa:ao->DM (List D)):ao->DM Fl:=fun δ=>fa δ>>=fun l=>match l with
 |[v,w,z]=>pure (.nx (((δ.set i (some v)).set j (some w)).set k (some z)))
 |_=>stuck
@[simp] theorem Oq(i j k:Nat)(fa:ao->DM (List D))(δ:ao):Lw i j k fa δ=fa δ>>=fun l=>match l with
 |[v,w,z]=>Pure.pure (.nx (((δ.set i (some v)).set j (some w)).set k (some z)))
 |_=>stuck:=id rfl
end L3
namespace N10
theorem vd(c:Nat):∀(f:List Nat),(f.map (c * ·)).sum=c*f.sum
 |[]=>rfl
 |a::f=>by simp only[List.map_cons,List.sum_cons,vd c f,Nat.mul_add]
def pl(a b:Nat):Nat×Nat:=(a / Nat.gcd a b,b / Nat.gcd a b)
def LC(x y:Nat):Nat:=x / Nat.gcd x y*y
theorem Gg(x y:Nat):Nat.gcd x y*LC x y=x*y:=by
 unfold LC
 rw[←Nat.mul_assoc,Nat.mul_div_cancel' (Nat.gcd_dvd_left x y)]
theorem zL(hx:0<x):LC x y=LC y x:=by
 have a:=Gg x y
 have b:=Gg y x
 rw[Nat.gcd_comm,Nat.mul_comm y x] at b
 have hg:0<Nat.gcd x y:=Nat.gcd_pos_of_pos_left _ hx
 exact Nat.eq_of_mul_eq_mul_left hg (by rw[a];exact b.symm)
theorem Ay (hx:0<x):LC x y / x * x=LC x y∧Nat.gcd x y * (LC x y / x)=y:=by
 have hg:0<Nat.gcd x y:=Nat.gcd_pos_of_pos_left _ hx
 obtain⟨k,hk⟩:=Nat.gcd_dvd_left x y
 obtain⟨m,hm⟩:=Nat.gcd_dvd_right x y
 have e1:LC x y=x*m:=by
  apply Nat.eq_of_mul_eq_mul_left hg
  rw[Gg]
  calc x*y=x*(Nat.gcd x y*m):=by rw[←hm]
   _=Nat.gcd x y*(x*m):=by rw[Nat.mul_left_comm]
 rw[e1,Nat.mul_div_cancel_left _ hx]
 exact⟨Nat.mul_comm _ _,hm.symm⟩
def aR(a b:List Nat):List Nat:=a.map fun w=>w*(LC a.sum b.sum / a.sum)
def bD(a b:List Nat):List Nat:=b.map fun w=>w*(LC a.sum b.sum / b.sum)
theorem xQ(l:List Nat)(c:Nat):(l.map fun w=>w*c)=l.map (c * ·):=List.map_congr_left fun w _=>Nat.mul_comm _ _
theorem zE(hx:0<a.sum):(aR a b).sum=LC a.sum b.sum:=by
 unfold aR
 rw[xQ,vd];exact (Ay hx).1
theorem HD(hx:0<a.sum)(hy:0<b.sum):(bD a b).sum=LC a.sum b.sum:=by
 unfold bD
 rw[xQ,vd,zL hx];exact (Ay hy).1
def Ni(l:List Nat):Nat:=l.foldl Nat.gcd 0
def lst(l:List Nat):List Nat:=l.map (·/ Ni l)
def S:Nat->(Nat->Nat)->Nat
 |0,_=>0
 |n+1,f=>S n f+f n
def up(f:Nat->Nat)(x v:Nat):Nat->Nat:=fun i=>if i=x then v else f i
theorem eU(f:Nat->Nat)(x v:Nat):up f x v x=v:=by simp[up]
theorem ir(h:i≠x):up f x v i=f i:=by simp[up,h]
theorem gm:∀ {n:Nat},(∀ i,i<n->f i=g i)->S n f=S n g
 |0,_=>rfl
 |n+1,h=>by
   show S n f+f n=S n g+g n
   rw[gm fun i hi=>h i (by lia),h n (by lia)]
theorem wV:∀ {n:Nat},x<n->S n (up f x v) + f x=S n f + v
 | n + 1,h=>by
   show S n (up f x v)+up f x v n+f x=S n f+f n+v
   by_cases e:x=n
   ·subst e
    rw[eU,gm (g:=f) fun i hi=>ir (by lia)];lia
   ·have:=wV (f:=f) (v:=v) (n:=n) (x:=x) (by lia)
    rw[ir (Ne.symm e)];lia
theorem jD:∀ {n:Nat},x<n->f x≤S n f
 |n+1,h=>by
   show f x≤S n f+f n
   by_cases e:x=n
   ·subst e;lia
   ·have:=jD (f:=f) (n:=n) (x:=x) (by lia);lia
theorem jU:∀ {n:Nat},(∀ i,i<n->f i=0)->S n f=0
 |0,_=>rfl
 |n+1,h=>by
   show S n f+f n=0
   rw[jU fun i hi=>h i (by lia),h n (by lia)]
theorem wC (f g:Nat->Nat):∀ n:Nat,S n (fun i=>f i + g i)=S n f + S n g
 |0=>rfl
 |n+1=>by
   show S n _+(f n+g n)=(S n f+f n)+(S n g+g n)
   rw[wC f g n];lia
theorem Ci (A:Nat->Nat->Nat) (m:Nat):∀ n:Nat,S n (fun x=>S m (A x))=S m (fun y=>S n (fun x=>A x y))
 |0=>(jU fun i _=>rfl).symm
 |n+1=>by
   show S n (fun x=>S m (A x))+S m (A n)=S m (fun y=>S n (fun x=>A x y)+A n y)
   rw[Ci A m n,wC]
theorem pL (f:Nat->Nat):∀ n:Nat,((List.range n).map f).sum=S n f
 |0=>rfl
 |n+1=>by
   rw[List.range_succ,List.map_append,List.sum_append,pL f n]
   show S n f+(f n+0)=S n f+f n
   lia
structure G where
 A:Nat->Nat->Nat
 L:Nat->Nat
 W:Nat->Nat
def eG(A:Nat->Nat->Nat)(x y v:Nat):Nat->Nat->Nat:=fun i=>if i=x then up (A x) y v else A i
def G.step(g:G)(x y:Nat):G:=⟨eG g.A x y (g.A x y+min (g.L x) (g.W y)),up g.L x (g.L x-min (g.L x) (g.W y)),up g.W y (g.W y-min (g.L x) (g.W y))⟩
structure G.Ok(g:G)(n:Nat)(f s:Nat->Nat):Prop where
 row:∀x,x<n->S n (g.A x)+g.L x=f x
 col:∀y,y<n->S n (fun x=>g.A x y)+g.W y=s y
theorem G.Ok.step {g:G}{n:Nat}{f s:Nat->Nat} (h:g.Ok n f s) {x y:Nat} (hx:x<n) (hy:y<n):(g.step x y).Ok n f s where
 row:=fun i hi=>by
  have r:=h.row i hi
  show S n (eG g.A x y _ i)+up g.L x _ i=f i
  by_cases e:i=x
  ·subst e
   have:=wV (f:=g.A i) (v:=g.A i y+min (g.L i) (g.W y)) hy
   rw[eU]
   simp only[eG,if_true]
   lia
  ·rw[ir e]
   simp only[eG,if_neg e]
   exact r
 col:=fun j hj=>by
  have r:=h.col j hj
  show S n (fun i=>eG g.A x y _ i j)+up g.W y _ j=s j
  by_cases e:j=y
  ·subst e
   have q:S n (fun i=>eG g.A x j (g.A x j+min (g.L x) (g.W j)) i j)=S n (up (fun i=>g.A i j) x (g.A x j+min (g.L x) (g.W j))):=gm fun i _=>by
    by_cases k:i=x
    ·subst k;simp[eG,eU]
    ·rw[ir k];simp[eG,k]
   have:=wV (f:=fun i=>g.A i j) (v:=g.A x j+min (g.L x) (g.W j)) hx
   rw[q,eU]
   lia
  ·have q:S n (fun i=>eG g.A x y (g.A x y+min (g.L x) (g.W y)) i j)=S n (fun i=>g.A i j):=gm fun i _=>by
    by_cases k:i=x
    ·subst k;simp[eG,ir e]
    ·simp[eG,k]
   rw[q,ir e];exact r
theorem G.step_le (g:G) (x y:Nat):(∀ i,(g.step x y).L i≤g.L i)∧(∀ j,(g.step x y).W j≤g.W j)∧((g.step x y).L x=0∨(g.step x y).W y=0)∧∀ i j,g.A i j≤(g.step x y).A i j:=by
 refine⟨fun i=>?_,fun j=>?_,?_,fun i j=>?_⟩
 ·show up g.L x _ i≤_
  by_cases e:i=x
  ·subst e;rw[eU];lia
  ·rw[ir e];exact Nat.le_refl _
 ·show up g.W y _ j≤_
  by_cases e:j=y
  ·subst e;rw[eU];lia
  ·rw[ir e];exact Nat.le_refl _
 ·show up g.L x _ x=0∨up g.W y _ y=0
  rw[eU,eU];lia
 ·show _≤eG g.A x y _ i j
  unfold eG
  split
  ·rename_i e
   subst e
   by_cases k:j=y
   ·subst k;rw[eU];lia
   ·rw[ir k];exact Nat.le_refl _
  ·exact Nat.le_refl _
def G.run(g:G)(sp:List (Nat×Nat)):G:=sp.foldl (fun g p=>g.step p.1 p.2) g
theorem G.run_ok{n:Nat}{f s:Nat->Nat}:∀{sp:List (Nat×Nat)}{g:G},g.Ok n f s->(∀p∈sp,p.1<n∧p.2<n)->(g.run sp).Ok n f s
 |[],g,h,_=>h
 |p::sp,g,h,hp=>G.run_ok (sp:=sp) (h.step (hp p (by simp)).1 (hp p (by simp)).2) fun q hq=>hp q (by simp[hq])
theorem G.run_le:∀ (sp:List (Nat×Nat)) (g:G),(∀ i,(g.run sp).L i≤g.L i)∧(∀ j,(g.run sp).W j≤g.W j)∧(∀ p∈sp,(g.run sp).L p.1=0∨(g.run sp).W p.2=0)∧∀ i j,g.A i j≤(g.run sp).A i j
 |[],g=>⟨fun _=>Nat.le_refl _,fun _=>Nat.le_refl _,by simp,fun _ _=>Nat.le_refl _⟩
 | p::sp,g=>by
   obtain⟨a1,a2,a3,a4⟩:=G.run_le sp (g.step p.1 p.2)
   obtain⟨b1,b2,b3,b4⟩:=g.step_le p.1 p.2
   refine⟨fun i=>Nat.le_trans (a1 i) (b1 i),fun j=>Nat.le_trans (a2 j) (b2 j),fun q hq=>?_,fun i j=>Nat.le_trans (b4 i j) (a4 i j)⟩
   rcases List.mem_cons.mp hq with rfl | hq
   ·rcases b3 with z | z
    ·exact .inl (Nat.le_zero.mp (z ▸ a1 _))
    ·exact .inr (Nat.le_zero.mp (z ▸ a2 _))
   ·exact a3 q hq
theorem G.done{n:Nat}{f s:Nat->Nat}{g:G}(h:g.Ok n f s)(e:S n f=S n s)(hp:∀x y,x<n->y<n->g.L x=0∨g.W y=0):(∀x,x<n->g.L x=0)∧∀y,y<n->g.W y=0:=by
 have r:S n (fun x=>S n (g.A x))+S n g.L=S n f:=by rw[←wC];exact gm fun i hi=>h.row i hi
 have c:S n (fun y=>S n (fun x=>g.A x y))+S n g.W=S n s:=by rw[←wC];exact gm fun i hi=>h.col i hi
 rw[Ci] at r
 have eq:S n g.L=S n g.W:=by lia
 refine⟨fun x hx=>?_,fun y hy=>?_⟩
 ·refine Classical.byContradiction fun z=>?_
  have w0:S n g.W=0:=jU fun y hy=>(hp x y hx hy).resolve_left z
  have:=jD (f:=g.L) hx
  lia
 ·refine Classical.byContradiction fun z=>?_
  have l0:S n g.L=0:=jU fun x hx=>(hp x y hx hy).resolve_right z
  have:=jD (f:=g.W) hy
  lia
end N10
namespace L3
open PySem PySem.Spec L2
def nM(R:List (List Nat)):D:=.tup (R.map nT)
def ga(l:List Nat)(i:Nat):Nat:=l.getD i 0
def gr(R:List (List Nat))(i:Nat):List Nat:=R.getD i []
theorem tY(h:i<l.length):ga l i=l[i]:=by
 unfold ga
 rw[List.getD_eq_getElem?_getD,List.getElem?_eq_getElem h];rfl
theorem Lp{R:List (List Nat)}{i:Nat}(h:i<R.length):gr R i=R[i]:=by
 unfold gr
 rw[List.getD_eq_getElem?_getD,List.getElem?_eq_getElem h];rfl
theorem JV(h:nD a=nD b):a=b:=by
 have:=D.int.inj h
 lia
theorem JZ(h:nT a=nT b):a=b:=(List.map_inj_right fun _ _=>JV).mp (D.tup.inj h)
theorem Dj {α:Type}{ft:ao->DM Bool}{fe:ao->DM D}{rest:ao} (enc:α->D) (p:α->Bool) (e:α->D):∀ (as:List α) (x:Option D) (l:List D),l.length + as.length≤1000000->(∀ a∈as,ft (some (enc a)::rest)=Pure.pure (p a))->(∀ a∈as,p a=true->fe (some (enc a)::rest)=Pure.pure (e a))->
  aZ (gN 0) ft (bh fe) (as.map enc) (x::rest) l=Pure.pure (cZ x (as.map enc)::rest,l++(as.filter p).map e)
 |[],x,l,_,_,_=>by simp[aZ,cZ]
 | d::ds,x,l,hl,h1,h2=>by
   have b:=h1 d (List.mem_cons_self ..)
   have hl':l.length+(ds.length+1)≤1000000:=by simpa using hl
   have lt:l.length<sizeLine:=by show l.length<2^24;lia
   have ih:=fun l' hl'=>Dj (rest:=rest) enc p e ds (some (enc d)) l' hl' (fun x hx=>h1 x (List.mem_cons_of_mem _ hx)) (fun x hx=>h2 x (List.mem_cons_of_mem _ hx))
   by_cases hp:p d=true
   ·have c:=h2 d (List.mem_cons_self ..) hp
    have q:=ih (l++[e d]) (by simp;lia)
    simp[aZ,b,hp,bh,c,lt,q,cZ]
   ·have q:=ih l (by lia)
    simp[aZ,b,hp,q,cZ]
theorem bN{α:Type}{ft:ao->DM Bool}{fe:ao->DM D}{x:Option D}{rest:ao}{as:List α}(enc:α->D)(p:α->Bool)(e:α->D)(hl:as.length≤1000000)(h1:∀a∈as,ft (some (enc a)::rest)=Pure.pure (p a))(h2:∀a∈as,p a=true->fe (some (enc a)::rest)=Pure.pure (e a)) :
  dj (aZ (gN 0) ft (bh fe) (as.map enc) (x::rest) [])=Pure.pure (cZ x (as.map enc)::rest,(as.filter p).map e):=by
 rw[Dj enc p e as x [] (by simpa using hl) h1 h2];simp
theorem lN{α:Type}{fe:ao->DM D}{x:Option D}{rest:ao}{as:List α}(enc:α->D)(e:α->D)(hl:as.length≤1000000)(h2:∀a∈as,fe (some (enc a)::rest)=Pure.pure (e a)) :
  dj (aZ (gN 0) (fun _=>Pure.pure true) (bh fe) (as.map enc) (x::rest) [])=Pure.pure (cZ x (as.map enc)::rest,as.map e):=by
 rw[bN enc (fun _=>true) e hl (fun _ _=>rfl) fun a ha _=>h2 a ha,List.filter_eq_self.mpr (fun _ _=>rfl)]
theorem yC(h0:0<b)(h:b<2^1000):(rd (iV (nD a) (nD b)):DM D)=Pure.pure (nD (a / b)):=by
 unfold nD
 rw[yD (uF (by lia) (by simpa using h)),Int.natCast_ediv]
theorem Kr(a b:Nat):(rd (cg (nD a) (nD b)):DM D)=Pure.pure (nD (a+b)):=by
 unfold nD
 rw[wF,Int.natCast_add]
theorem uU(a:Nat):(rd (cg (nD a) (.int 1)):DM D)=Pure.pure (nD (a+1)):=Kr a 1
theorem Eb(h:b≤a):(rd (o4 (nD a) (nD b)):DM D)=Pure.pure (nD (a-b)):=by
 unfold nD
 rw[Hn]
 have:(a:Int)-(b:Int)=((a-b:Nat):Int):=by lia
 rw[this]
theorem qg(a b:Nat):(rd (dF (nD a) (nD b)):DM D)=Pure.pure (.bl (decide (a=b))):=by
 unfold nD
 rw[Hl]
 have:decide ((a:Int)=(b:Int))=decide (a=b):=by rw[Bool.eq_iff_iff,decide_eq_true_eq,decide_eq_true_eq];lia
 rw[this]
theorem qi(a b:Nat):(rd (du (nD a) (nD b)):DM D)=Pure.pure (.bl (!decide (a=b))):=by
 unfold nD
 rw[Mj]
 have:decide ((a:Int)=(b:Int))=decide (a=b):=by rw[Bool.eq_iff_iff,decide_eq_true_eq,decide_eq_true_eq];lia
 rw[this]
theorem Kz(a b:Nat):(rd (Dl (nD a) (nD b)):DM D)=Pure.pure (.bl (decide (a<b))):=by
 unfold nD
 rw[Ky]
 have:decide ((a:Int)<(b:Int))=decide (a<b):=by rw[Bool.eq_iff_iff];simp
 rw[this]
theorem Ku(a b:Nat):(rd (Ha (nD a) (nD b)):DM D)=Pure.pure (.bl (decide (b<a))):=by
 unfold nD
 rw[Nv]
 have:decide ((b:Int)<(a:Int))=decide (b<a):=by rw[Bool.eq_iff_iff];simp
 rw[this]
theorem cL(l:List Nat):(rd (dW [nT l]):DM D)=Pure.pure (nD l.length):=by simp[nT,nD]
theorem Kv(R:List (List Nat)):(rd (dW [nM R]):DM D)=Pure.pure (nD R.length):=by simp[nM,nD]
theorem uv(h:n<2^62):fU [nD n]=some (.fix ((List.range n).map nD)):=gW h
theorem Bl(h:i<l.length):(rd (cF (nT l) (nD i)):DM D)=Pure.pure (nD (ga l i)):=oF (by unfold ga;rw[List.getD_eq_getElem?_getD,List.getElem?_eq_getElem h];rfl)
end L3
namespace LS
open PySem PySem.Spec PyProof.Rows PyProof
section
variable{prog:Program}{w:World}{A:Around}{E:Value->Shared->Prop}
theorem Li (ne:l≠it) (n:Nat):∀ (i:Nat) (s:Shared) (Q:List Value->Shared->Prop),s.heap.IsListIter it l i->s.heap.IsList l vs->i + n≤vs.size->
  (∀h',h'.IsListIter it l (i+n)->Heap.SameBut it s.heap h'->Q ((vs.toList.drop i).take n) { s with heap:=h' })->wpAny (model prog w) A (draw (.ref it) n) Q E s:=by
 induction n with
 |zero=>exact fun i s Q p _ _ q=>wpAny_pure (by simpa using q s.heap p (Heap.SameBut.refl ..))
 | succ n ih=>
   intro i s Q p hl le q
   have lt:i<vs.size:=by lia
   unfold draw
   refine wpAny_bind (wpAny_pyNext_list_item p hl (x:=vs[i]) (by simp[lt]) fun h1 p1 s1=>wpAny_bind (wpAny_holding (ih (i+1) _ _ p1 (hl.extBut s1.extBut ne) (by lia) fun h2 p2 s2=>?_)))
   have e:(vs.toList.drop i).take (n+1)=vs[i]::(vs.toList.drop (i+1)).take n:=by
    rw[List.drop_eq_getElem_cons (by simpa using lt),List.take_succ_cons];simp
   have z:=q h2 (by have:i + (n + 1)=i + 1 + n:=by lia
                    rw[this];exact p2) (s1.trans s2)
   rw[e] at z
   exact wpAny_pure z
theorem IW(hh:A.handled=none)(hl:s.heap.IsList l vs)(hn:ts.length=vs.size)(hs:ts.findIdx? (·.1)=none)
  (h:∀h',Heap.ExtBut s.heap.objs.size s.heap h'->wpAny (model prog w) A (assignInOrder (ts.map (·.2)) vs.toList) Q E { s with heap:=h' }):wpAny (model prog w) A (unpack (.ref l) ts) Q E s:=by
 have ne:l≠s.heap.objs.size:=by
  obtain⟨o,e,_⟩:=hl
  exact Nat.ne_of_lt (Heap.lt_size e)
 unfold unpack
 rw[hs,hn]
 unfold unpackItems notIterableAtAll
 refine wpAny_bind (wpAny_holding (wpAny_bind (wpAny_bind (wpAny_specialOf hl.typeIs slot_list_iter.lookup (wpAny_pure ?_)))))
 rw[if_neg Bool.false_ne_true]
 refine wpAny_bind (wpAny_holding (wpAny_pyIter_list hl (wpAny_bind (wpAny_holding (Li ne vs.size 0 _ _ ⟨_,Heap.get?_push_size _ rfl,rfl,rfl⟩ (hl.push _) (by lia) fun h1 p1 s1=>?_)))))
 have all:(vs.toList.drop 0).take vs.size=vs.toList:=by simp[List.take_of_length_le]
 rw[all,if_neg (by simp)]
 refine wpAny_bind (wpAny_holding (wpAny_pyNext_list_end hh p1 ((hl.push _).extBut s1.extBut ne) (by simp) fun h2 e2=>?_))
 rw[if_neg (by simp)]
 exact wpAny_pure (h h2 fun b o hb e=>e2 b o hb (s1.extBut b o hb (Heap.get?_push_of_some _ e)))
end
end LS
namespace L2
open PySem PySem.Spec PyProof.Rows
variable{X:Cx}{pos:Pos}
def Nh(K:PySem.W.Frag)(n:Nat)(t:TGs):TG:=fun v σ H Q=>∃a xs,v=.ref a∧SqL K H a xs∧xs.length=n∧t xs σ H Q
theorem Kd(hc:X.calm=true)(h:PGs X es t)(hn:(assignEach es X.env).length=n:=by rfl)(hst:(assignEach es X.env).findIdx? (·.1)=none:=by rfl):PG X (.Tuple es k pos) (Nh X.K n t):=by
 intro pins s σ H v u Q I r ⟨a,xs,e1,hq,hl,hw⟩
 subst e1
 cases r
 obtain⟨its,rv,⟨o,n0,e,hcl,_,hd⟩,hz⟩:=I.list hq
 rw[assign_Tuple]
 refine wpAny_bind (wpAny_standAt (LS.IW (I.ok.hd hc) ⟨o,e,hcl,n0,hd⟩ (by simp[hn,←hl,rv.length]) hst fun h' hx=>?_))
 have I1:Inv X pins σ H { s with heap:=h' }:=I.kept (t':=s.toks) fun b o e=>hx b o (Nat.ne_of_lt (Heap.lt_size e)) e
 exact h pins _ σ H xs _ Q I1 (by simpa using rv) hw
end L2
namespace L3
open PySem PySem.Spec PyProof.Rows L2
variable{X:Cx}{E:XK}{pos:Pos}
def gL(n:Nat)(fs:List D->ao->DM ao):D->ao->DM ao
 |.lst l,δ=>if l.length=n then fs l δ else stuck
 |_,_=>stuck
@[simp] theorem O4(n:Nat)(fs:List D->ao->DM ao)(l:List D)(δ:ao):gL n fs (.lst l) δ=if l.length=n then fs l δ else stuck:=id rfl
theorem Jh (hc:X.calm=true) (h:DGs X E es fgs) (hn:(assignEach es X.env).length=n:=by rfl) (hst:(assignEach es X.env).findIdx? (·.1)=none:=by rfl):DG X E (.Tuple es k pos) (gL n fgs):=
 ⟨PG.mono (Kd hc h.h hn hst) fun v σ H Q h=>by
  obtain⟨ρ,δ,M,d,ev,j,c,g1⟩:=h
  cases c with
  | lst nx a c=>
    have g1:Go X.mg E (Ev X.mg) Q ρ H (if _ then _ else _) M:=g1
    split at g1
    ·rename_i hl
     exact⟨_,_,rfl,SqL.of a,by rw[c.len];exact hl,ρ,δ,M,_,ev,j,c,g1⟩
    ·obtain⟨r,e,_⟩:=g1;cases e
  |_=>obtain⟨r,e,_⟩:=g1;cases e⟩
end L3
namespace L3
open PySem PySem.Spec L2
abbrev Mg:=Str->Option Value
abbrev Fn:=List D->DM D
abbrev Nn(mg:Mg)(x:Str):Prop:=mg x=none
abbrev Gi(mg:Mg)(x:Str)(i:Int)(t:Tok):Prop:=mg x=some (.int i t)
abbrev Gc(mg:Mg)(x:Str)(C:Addr):Prop:=mg x=some (.ref C)
abbrev Rm(k:Nat)(A:Around)(q:Str)(st:Stmt)(s:Shared)(f:Addr)(cdv:Value):Prop:=Room k (A.deeper (PyProof.Rows.envOfC q (defScope st) s.heap.objs.size f cdv))
abbrev Ds(P:Program)(w:World)(K:PySem.W.Frag)(mg:Mg)(base:Heap)(N:List Str)(q:Str)(st:Stmt)(f:Addr)(cdv:Value)(A:Around)(outer:List Env)(s:Shared)(H:Hp)(E:XK)(b:ao->DM Fl):Prop:=
 DSs (cB P w K mg base N q (defScope st) f cdv A outer s H E) E (defBody st) b
theorem Mr(a:sc.kind=.function)(b:sc.isCoroutine=false)(c:sc.isGenerator=false)(p:N.take P.length=P)(d:(decide N.Nodup&&(decide (∀x∈P,sc.names.lookup x=some .local∨sc.names.lookup x=some .cell)&&decide (∀y∈sc.names,y.2≠.free)))=true):FnScope N P sc:=by
 simp only[Bool.and_eq_true,decide_eq_true_eq] at d
 exact⟨a,b,c,d.1,p,d.2.1,d.2.2⟩
theorem u1(h:n+64<cLine):n+1<cLine:=by lia
end L3
namespace L3
open PySem L2
end L3
namespace L3
open PySem PySem.Spec L2 LB
end L3
namespace L3
open PySem L2
end L3
namespace L3
open PySem PySem.Spec L2 LA LB
open PyProof.Rows hiding St
end L3
namespace L3
open PySem PySem.Spec L2 LA LB LS
open PyProof.Rows hiding St
end L3
namespace L2
open PySem PySem.Spec PyProof.Rows LS LA LB
end L2
namespace L3
open PySem PySem.Spec L2 LA LB
end L3
namespace L3
open PySem PySem.Spec L2
open PyProof.Rows hiding St
end L3
namespace L3
open PySem PySem.Spec PyProof.Rows L2
abbrev TB(K:PySem.W.Frag)(x:Str):Prop:=PySem.W.nsIn K mainGlobals x=some none
def TD(K:PySem.W.Frag)(x:Str)(st:Stmt):Prop:=∀{h:Heap}{mg:Mg},K.In h->h.Ns mainGlobals mg->DefAt K mg x st
section
variable{K:PySem.W.Frag}{x:Str}{st:Stmt}{f:Addr}{oc:Value}{od an:Option Addr}{osl:Array (Option Value)}{kV doc pm cdv ct:Value}
theorem Mt(a:PySem.W.nsIn K mainGlobals x=some (some (.ref f)))(l:K.lookup f=some ⟨oc,od,.func (PySem.W.fnOf x x (defArgs st) (defBody st) (defScope st) .none kV doc pm an cdv ct),osl⟩)(c:PySem.W.codeIn K cdv x=true)(k:PySem.W.keepIn K (.ref f)=true):TD K x st:=
 fun X G=>Fz X G a l c k
end
section
variable{P:Program}{w:World}{K:PySem.W.Frag}{mg:Mg}{base:Heap}{k:Nat}{C:Addr}{c x qual:Str}{N ps:List Str}{st:Stmt}{fb:ao->DM Fl}{is:List Int}
theorem okd(T:DefAt K mg x st)(S:FnScope N ps (defScope st))(hbody:∀{f cdv A outer s H E},Rm k A x st s f cdv->Ds P w K mg base N x st f cdv A outer s H E fb)
  (hb:∀(kV doc pm:Value) (an:Option Addr) (cdv ct:Value) (us:List Value),us.length=ps.length->bindArgs (PySem.W.fnOf x x (defArgs st) (defBody st) (defScope st) .none kV doc pm an cdv ct) ⟨us,[]⟩=pure (ps.zip us):=by intro _ _ _ _ _ _ us hl;first | (obtain⟨_,rfl⟩:=pY hl;rfl) | (obtain⟨_,_,rfl⟩:=JK hl;rfl) | (obtain⟨_,_,_,rfl⟩:=JL hl;rfl) | (obtain⟨_,_,_,_,rfl⟩:=JN hl;rfl)) :
  DefD P w K mg base (k+1) x ps (aL ps.length N.length fb):=L3.DefAt.okD T S hb fun _ _ _ _ _ _ _=>hbody
theorem okn(fb:Nat->ao->DM Fl)(T:DefAt K mg x st)(S:FnScope N ps (defScope st))(hf:∀ds M r,F ds M=some r->∃n,aL ps.length N.length (fb n) ds M=some r)(hbody:∀n {f cdv A outer s H E},Rm k A x st s f cdv->Ds P w K mg base N x st f cdv A outer s H E (fb n))
  (hb:∀(kV doc pm:Value) (an:Option Addr) (cdv ct:Value) (us:List Value),us.length=ps.length->bindArgs (PySem.W.fnOf x x (defArgs st) (defBody st) (defScope st) .none kV doc pm an cdv ct) ⟨us,[]⟩=pure (ps.zip us):=by intro _ _ _ _ _ _ us hl;first | (obtain⟨_,rfl⟩:=pY hl;rfl) | (obtain⟨_,_,rfl⟩:=JK hl;rfl) | (obtain⟨_,_,_,rfl⟩:=JL hl;rfl) | (obtain⟨_,_,_,_,rfl⟩:=JN hl;rfl)) :
  DefD P w K mg base (k+1) x ps F:=L3.DefAt.okN T S hb hf fun n _ _ _ _ _ _ _=>hbody n
end
end L3
namespace LA
open PySem PySem.W PySem.Calls LS PyProof.Rows LB
end LA
namespace L2
open PySem PySem.Spec PyProof.Rows LS LA LB
end L2
namespace L3
open PySem PySem.Spec L2 LA LB LS
open PyProof.Rows hiding St
end L3
namespace L3
open PySem PySem.Spec L2
open PyProof.Rows hiding St
end L3
namespace L3
open PySem PySem.Spec L2 LB
end L3
namespace L3
open PySem PySem.Spec L2
open PyProof.Rows hiding St
section
variable{X:Cx}{E:XK}{a:Expr}{fa:ao->DM D}{fs:ao->DM (List D)}{pos p1 p2 p3 p4:Pos}
def Jk:D->D->Mo->Option D
 |.tup l,.tup [],_=>some (.bl l.isEmpty)
 |_,_,_=>none
theorem Ie(hu:X.A.units+64<cLine):OpR X (compareOp .Eq) (fun x y H Q=>∃a b xs,x=.ref a∧y=.ref b∧H a=some (.tup xs)∧H b=some (.tup [])∧Q (.bl xs.isEmpty) H):=by
 intro pins s σ H x y v u Q I rx ry h
 obtain⟨a,b,xs,rfl,rfl,ha,hb,q⟩:=h
 cases rx
 cases ry
 obtain⟨i1,r1,h1,_⟩:=I.tuple (SqT.of (K:=X.K) ha)
 obtain⟨i2,r2,h2,_⟩:=I.tuple (SqT.of (K:=X.K) hb)
 cases r2
 refine PySem.SeqAt.RcAt.tuples (e:=fun _=>true) h1 h2 (by lia) (fun j _ j2=>absurd j2 (Nat.not_lt_zero _)) _ _ _ _ ?_
 refine⟨.bl xs.isEmpty,H,I,?_,q⟩
 cases r1<;>rfl
theorem Ib (hu:X.A.units + 64<cLine):bW X E (compareOp .Eq) (fun x y=>rd (Jk x y)):=bW.of (Ie hu) fun x y H Q ρ M dx dy d j cx cy e q=>by
 unfold Jk at e
 split at e
 ·cases e
  cases cx with
  | tup n1 h1 c1=>
    cases cy with
    |tup n2 h2 c2=>
      cases c2
      refine⟨_,_,_,rfl,rfl,h1,h2,?_⟩
      rw[c1.empty]
      exact q ρ H _ .refl j (.bl _)
 ·cases e
def Bp:D->Option D
 |.tup l=>some (.tup l.reverse)
 |_=>none
theorem CJ{i:Nat}(ha:DE X E a fa):DE X E (.Subscript a (.Slice none none (some (.UnaryOp .USub (.Constant (.int 1) i p3) p4)) p2) pos) (fun δ=>fa δ>>=fun x=>opt (Bp x)):=⟨PE.mono (Kc ha.h) fun σ H Q h=>by
 obtain⟨ρ,δ,M,ev,j,g1⟩:=h
 refine⟨ρ,δ,M,ev,j,g1.bind fun ρ1 H1 M1 x dx e1 j1 c1 g2=>?_⟩
 obtain⟨d,ed,q⟩:=g2.opt
 unfold Bp at ed
 split at ed
 ·cases ed
  cases c1 with
  |tup n h c=>exact⟨_,_,rfl,h,fun p hp=>q ρ1 _ _ (.lay hp) (j1.lay _ hp) (.tup (j1.fresh hp) upd_same (c.reverse.mono (.lay hp)))⟩
 ·cases ed⟩
theorem CN{st:List Stmt}:DSs X E st (fun _=>stuck):=⟨by
 intro pins s σ H D I h
 obtain⟨ρ,δ,M,ev,j,g1⟩:=h
 obtain⟨r,e,_⟩:=g1
 cases e⟩
end
end L3
namespace L2
open PySem PySem.Spec PyProof.Rows LS
section
variable{X:Cx}
theorem Cu (hc:X.calm=true):CallR X (.builtin "min") (fun xs H Q=>∃ i j k,xs=[.int i,.int j,.int k]∧Q (.int (min (min i j) k)) H):=by
 intro pins s σ H xs us Q I r h
 obtain⟨i,j,k,rfl,q⟩:=h
 cases r with
 | cons r1 r=>
   cases r with
   | cons r2 r=>
     cases r with
     | cons r3 r=>
       cases r
       obtain⟨t,rfl⟩:=r1
       obtain⟨u,rfl⟩:=r2
       obtain⟨v,rfl⟩:=r3
       refine min_three_ints (I.ok.hd hc) fun h' tk kk=>⟨_,H,I.kept kk,?_,q⟩
       by_cases h1:j<i
       ·rw[if_pos h1]
        by_cases h2:k<j
        ·rw[if_pos h2,show min (min i j) k=k by lia];exact⟨_,rfl⟩
        ·rw[if_neg h2,show min (min i j) k=j by lia];exact⟨_,rfl⟩
       ·rw[if_neg h1]
        by_cases h2:k<i
        ·rw[if_pos h2,show min (min i j) k=k by lia];exact⟨_,rfl⟩
        ·rw[if_neg h2,show min (min i j) k=i by lia];exact⟨_,rfl⟩
def K6(ta:TA):TE:=fun σ H Q=>ta σ H fun vs H1=>∃(p:Addr) (ns:List Int),vs=[.ref p]∧H1 p=some (.tup (ns.map V.int))∧ns.length≤60∧∀l,H1 l=none->Q (.ref l) (upd H1 l (.lst ((lG ns).map V.int)))
theorem Gw {a:Expr}{ta:TA}{p1 p2 pos1 pos2:Pos} (hc:X.calm=true) (hgL:Gl X "sorted") (hmL:X.mg "sorted"=none) (hg:Gl X "set") (hm:X.mg "set"=none) (ha:PA X [a] ta) (hs:notStar a=true:=by rfl) :
  PE X (.Call (.Name "sorted" p1) [.Call (.Name "set" p2) [a] [] pos2] [] pos1) (K6 ta):=by
 intro pins s σ H Q I h
 have hst:starEach [Expr.Call (.Name "set" p2) [a] [] pos2] X.env=(false,eval (.Call (.Name "set" p2) [a] [] pos2) X.env)::starEach [] X.env:=b7 rfl
 refine Call_ (ld_blt I hgL hmL w6 (PyProof.Rows.callWith_builtin1 ?_ hst rfl))
 rw[hst]
 show wpAny _ _ (spliced ((false,eval (.Call (.Name "set" p2) [a] [] pos2) X.env)::[])) _ _ s
 refine Calls.spliced_cons ?_
 refine Call_ (ld_blt I hg hm Cm (PyProof.Rows.callWith_type1 (thn (ha pos2 pins s σ H _ I h) fun us s1 ⟨vs,H1,I1,r1,q1⟩=>?_) (b7 hs) rfl))
 obtain⟨p,ns,e,hp,hl,q⟩:=q1
 subst e
 cases r1 with
 | cons r rr=>
   cases rr
   cases r
   obtain⟨its,vl,ho,_⟩:=I1.tuple (SqT.of (K:=X.K) hp)
   have ia:=vR vl
   have il:its.length=ns.length:=IntsAre.length ia
   have hd:=I1.ok.hd hc
   refine Cw (items:=its.toArray) (ns:=ns) hd ho (by simpa using ia) (by simp[scanBound];lia) fun h1 tk1 g k1=>?_
   refine Calls.spliced_nil ?_
   rw[show its.toArray.size=ns.length from by rw[List.size_toArray];exact il,xF] at g
   have sl:(ns.foldl step_dedup []).length≤60:=Nat.le_trans (foldl_step_dedup_nil_length_le ns) hl
   refine Bw (s:={ s1 with heap:=h1,toks:=tk1 }) hd g (by lia) fun h2 tk2 d2 l m ws ms hge hol ims pm so k2=>?_
   have sz:s1.heap.objs.size≤l:=by
    obtain⟨es,ep,t,hs1,_⟩:=g.ex
    exact Nat.le_trans (Nat.le_of_lt (Heap.lt_size hs1)) hge
   have em:ms=lG ns:=mL (pm.trans (gA _).1.symm) so (gA _).2
   have kk:∀b o,s1.heap.get? b=some o->h2.get? b=some o:=fun b o e=>k2 b o (k1 b o (Heap.lt_size e) e)
   have zl:((lG ns).map V.int).length≤sizeLine:=by
    rw[List.length_map]
    have:=Iv ns
    show _≤2^24
    lia
   have I2:=I1.call (h':=h2) (t':=tk2) (d':=d2) (g':=s1.gens) (ch:=[]) (Un.laid kk sz (I1.hok.fresh sz)) (I1.hok.laid (o:=.lst ((lG ns).map V.int)) kk sz ⟨zl,ws,m,by rw[←em];exact vals_ints ims,hol⟩) I1.bare (fun _ z=>nomatch z)
   exact⟨.ref l,upd H1 l (.lst ((lG ns).map V.int)),I2,rfl,q l (I1.hok.fresh sz)⟩
end
end L2
namespace L3
open PySem PySem.Spec L2
section
variable{X:Cx}{E:XK}{a:Expr}{fa:ao->DM (List D)}{p1 p2 pos1 pos2:Pos}
def Bb:List D->Mo->Option D
 |[.int i,.int j,.int k],_=>some (.int (min (min i j) k))
 |_,_=>none
theorem Al (hc:X.calm=true):CallD X E (.builtin "min") (fun l=>rd (Bb l)):=CallD.of (Cu hc) fun vs H Q ρ M ds d j c e q=>by
 unfold Bb at e
 split at e
 ·cases e
  cases c with
  | cons c1 c=>cases c with
    | cons c2 c=>cases c with
      |cons c3 c=>
        cases c;cases c1;cases c2;cases c3
        exact⟨_,_,_,rfl,q ρ H _ .refl j (.int _)⟩
 ·cases e
def By:List D->Option (List D)
 |[.tup l]=>(intsOf l).bind fun ns=>if ns.length≤60 then some ((lG ns).map D.int) else none
 |_=>none
theorem Fy (hc:X.calm=true) (hmL:X.mg "sorted"=none) (hm:X.mg "set"=none) (ha:DA X E [a] fa) (hgL:Gl X "sorted":=by rfl) (hg:Gl X "set":=by rfl) (hs:notStar a=true:=by rfl) :
  DE X E (.Call (.Name "sorted" p1) [.Call (.Name "set" p2) [a] [] pos2] [] pos1) (fun δ=>fa δ>>=fun l=>opt ((By l).map D.lst)):=⟨PE.mono (Gw hc hgL hmL hg hm ha.h.h hs) fun σ H Q h=>by
 obtain⟨ρ,δ,M,ev,j,g1⟩:=h
 refine⟨ρ,δ,M,ev,j,g1.bind fun ρ1 H1 M1 xs ds e1 j1 c1 g2=>?_⟩
 obtain⟨d,ed,q⟩:=g2.opt
 obtain⟨l,el,rfl⟩:=Option.map_eq_some_iff.mp ed
 unfold By at el
 split at el
 ·obtain⟨ns,h1,el⟩:=Option.bind_eq_some_iff.mp el
  split at el
  ·rename_i hn
   cases el
   have e0:=vQ h1
   subst e0
   obtain⟨v,rfl,k⟩:=c1.one
   cases k with
   |tup n h c=>exact⟨_,ns,rfl,by rw[h,xj c],hn,fun l hl=>q ρ1 _ _ (.lay hl) (j1.lay _ hl) (.lst (j1.fresh hl) upd_same (Cvs.ints _))⟩
  ·cases el
 ·cases el⟩
end
end L3
namespace N10
end N10
namespace K
open PySem L2 L3
theorem pB(l:List Str)(h:l.Nodup:=by decide):l.Nodup:=h
local macro_rules | `(tactic| trivial)=>`(tactic| refine⟨rfl,by decide +kernel,rfl,K4 ?_,fun m_=>Ju rfl,by decide,rfl,H8 rfl,H9 ?_,Jp ?_⟩<;>((repeat' apply And.intro)<;>first | exact True.intro | rfl | exact Or.inl rfl | exact Or.inr rfl | exact⟨_,rfl⟩))
def top(i:Nat):Stmt:=PySem.Challenge.pw_fadewalk_k11_joinings_and_papers_looked.main.body.getD i (.Pass ⟨0,0,0,0⟩)
abbrev ww:List Str:=["NoLot", "Unlike"]
abbrev Qd(k:Nat)(N:List Str)(x:Str)(st:Stmt)(Y:Program->World->PySem.W.Frag->Mg->Heap->Prop->Prop):={b:ao->DM Fl // ∀{P w K mg base f cdv A outer s H E},Y P w K mg base (Rm k A x st s f cdv->Ds P w K mg base N x st f cdv A outer s H E b)}
abbrev Qe(k:Nat)(N:List Str)(x:Str)(st:Stmt)(Y:(Nat->Str->List Str->Fn->Prop)->(Str->Prop)->Prop->Prop):=Qd k N x st fun P w K m o=>Y (DefD P w K m o) (Nn m)
abbrev Sc(N ps:List Str)(st:Stmt):=FnScope N ps (defScope st)
theorem bU{N P:List Str}{sc:Scope}(a:sc.kind=.function:=by exact rfl)(b:sc.isCoroutine=false:=by exact rfl)(c:sc.isGenerator=false:=by exact rfl)(p:N.take P.length=P:=by exact rfl)(d:(decide N.Nodup&&(decide (∀x∈P,sc.names.lookup x=some .local∨sc.names.lookup x=some .cell)&&decide (∀y∈sc.names,y.2≠.free)))=true:=by decide +kernel):FnScope N P sc:=Mr a b c p d
theorem cW{X:Cx}{E:XK}{scope:Scope}{cl:List (Str×Addr)}{elt i0:Expr}{p0 pos:Pos}{fi:ao->DM Itn}{fe:ao->DM D}(x:Str)(js:List Nat)(fr:List Str)(hi:DI X E (.Name x p0) i0 fi)
  (he:∀{pins m fp C s₂ H₂},DE (X.bN pins scope (cellsFrom m scope.names cl) ([x]++fr) fp C s₂ H₂) E0 elt fe) (T:CompG X scope cl [x] js fr:=by trivial) (hc:X.calm=true:=by exact rfl)
  (nd:([x]++fr).Nodup:=by decide) (hl:∀m C Z,(compEnvC scope (cellsFrom m scope.names cl) C Z).scope.names.lookup x=some .local:=by intros;exact rfl)
  (hs:∀y,foldedSetIterable i0 X.env y=pure y:=by intro _;rfl) :
  DE X E (.ListComp elt [⟨.Name x p0,i0,[],0⟩] scope pos) (fun δ=>fi δ>>=fun it=>dj (dC (gN 0) (fun _=>pure true) (bh fe) it (aP [x].length js δ) [])>>=fun p=>Out.val.run p.2):=
 iC (own:=[x]) .val hc T hi (fun _ _ _ _ _ _=>aG (i:=0) nd rfl (Or.inl (hl ..)) (Or.inr (hl ..))) (fun _ _ _ _ _ _=>eO) (fun _ _ _ _ _ _=>he) hs
section
variable(N:Nat)(v0 v1 v2 v3 v4 v5 v6 v7 v8 v9 v10 v11 v12 v13 v14 v15 v16 v17 v18 v19:Fn)
abbrev oX:Stmt:=top 5
theorem zf:Sc ["thing"] ["thing"] oX:=bU
@[simp] noncomputable def ur:Qe 0 ["thing"] "is_whole" oX fun D n Z=>n "bool"->n "int"->n "isinstance"->Z:=
 ⟨_,fun ya yb yc hr=>(az (aD (iY (aJ bK yc (aj (aa 0) (aj (eX (T := "int") yb) ak))) (iZ (CG (aJ bK yc (aj (aa 0) (aj (eX (T := "bool") ya) ak))))))))⟩
noncomputable def jG:=(ur).1
abbrev fG:Stmt:=top 6
theorem iy:Sc ["one", "other"] ["one", "other"] fG:=bU
@[simp] noncomputable def fB:Qe 0 ["one", "other"] "greatest_divider" fG fun _ _ Z=>Z:=
 ⟨_,fun  hr=>have nd:=iy.nd;(aq (xr N PassesOwn.leaving (bw (aa 1) (fun _=>rfl)) (az (xn (i:=0) (j:=1) rfl nd rfl rfl (by decide) rfl rfl (aj (aa 1) (aj (aF jO (aa 0) (aa 1)) ak)) rfl)))
  (az (aD (aa 0))))⟩
noncomputable def cT:=(fB N).1
abbrev gj:Stmt:=top 7
theorem qU:Sc ["one", "other"] ["one", "other"] gj:=bU
@[simp] noncomputable def kZ:Qe 1 ["one", "other"] "least_multiple" gj fun D n Z=>D 1 "greatest_divider" ["one", "other"] v0->Z:=
 ⟨_,fun ya hr=>(az (aD (aF eQ (aF iH (aa 0) (aB ya hr aH (aj (aa 0) (aj (aa 1) ak)))) (aa 1))))⟩
noncomputable def jZ:=(kZ v0).1
abbrev jx:Stmt:=top 10
theorem u9:Sc ["thing", "many"] ["thing", "many"] jx:=bU
@[simp] noncomputable def pG:Qe 1 ["thing", "many"] "are_weights" jx fun D n Z=>D 1 "is_whole" ["thing"] v0->n "all"->n "isinstance"->n "len"->n "tuple"->Z:=
 ⟨_,fun ya yb yc yd ye hr=>(aq (bA (DW.dt (fK (bQ (bw (aJ bK yc (aj (aa 0) (aj (eX (T := "tuple") ye) ak))) (fun _=>rfl))) (eF (bz (cz hr.units) (aJ call_lenD yd (aj (aa 0) ak)) (aa 1)))))
  (az (aD bL))
  aY)
  (az (aD (aJ (gq hr.hd) yb (aj (cW "weight" [] [] (bO (aa 0)) (iY (aB ya hr gO (aj (aa 0) ak)) (iZ (gK xU (aa 0) aA)))) ak)))))⟩
noncomputable def dZ:=(pG v0).1
abbrev oU:Stmt:=top 11
theorem zb:Sc ["thing", "many"] ["thing", "many"] oU:=bU
@[simp] noncomputable def um:Qe 2 ["thing", "many"] "are_rows" oU fun D n Z=>D 2 "are_weights" ["thing", "many"] v0->n "all"->n "isinstance"->n "len"->n "tuple"->Z:=
 ⟨_,fun ya yb yc yd ye hr=>(aq (bA (DW.dt (fK (bQ (bw (aJ bK yc (aj (aa 0) (aj (eX (T := "tuple") ye) ak))) (fun _=>rfl))) (eF (bz (cz hr.units) (aJ call_lenD yd (aj (aa 0) ak)) (aa 1)))))
  (az (aD bL))
  aY)
  (az (aD (aJ (gq hr.hd) yb (aj (cW "row" [1] ["many"] (bO (aa 0)) (aB ya hr gO (aj (aa 0) (aj (aa 1) ak)))) ak)))))⟩
noncomputable def jE:=(um v0).1
abbrev oW:Stmt:=top 12
theorem zc:Sc ["thing", "many"] ["thing", "many"] oW:=bU
@[simp] noncomputable def uq:Qe 1 ["thing", "many"] "is_place" oW fun D n Z=>D 1 "is_whole" ["thing"] v0->Z:=
 ⟨_,fun ya hr=>(az (aD (iY (aB ya hr aH (aj (aa 0) ak)) (iZ (xm qb xW aA (aa 0) (aa 1))))))⟩
noncomputable def jF:=(uq v0).1
abbrev mJ:Stmt:=top 13
theorem yN:Sc ["things"] ["things"] mJ:=bU
@[simp] noncomputable def rK:Qe 0 ["things"] "is_rising" mJ fun D n Z=>n "all"->n "len"->n "range"->Z:=
 ⟨_,fun ya yb yc hr=>(az (aD (aJ (gq hr.hd) ya (aj (cW "at" [0] ["things"] (CK rfl yc (aj aA (aj (aJ call_lenD yb (aj (aa 0) ak)) ak))) (gK xW (aM aQ (aa 1) (aF cJ (aa 0) aA)) (aM aQ (aa 1) (aa 0)))) ak))))⟩
noncomputable def mq:=(rK).1
abbrev eV:Stmt:=top 14
theorem oZ:Sc ["thing", "many"] ["thing", "many"] eV:=bU
@[simp] noncomputable def iu:Qe 2 ["thing", "many"] "are_rising_places" eV fun D n Z=>D 2 "is_place" ["thing", "many"] v0->D 1 "is_rising" ["things"] v1->n "all"->n "isinstance"->n "tuple"->Z:=
 ⟨_,fun ya yb yc yd ye hr=>(aq (bA (DW.dt (fK (bQ (bw (aJ bK yd (aj (aa 0) (aj (eX (T := "tuple") ye) ak))) (fun _=>rfl))) (eF (bQ (bw (aJ (gq hr.hd) yc (aj (cW "place" [1] ["many"] (bO (aa 0)) (aB ya hr gO (aj (aa 0) (aj (aa 1) ak)))) ak)) (fun _=>rfl))))))
  (az (aD bL))
  aY)
  (az (aD (aB yb hr aH (aj (aa 0) ak)))))⟩
noncomputable def cN:=(iu v0 v1).1
abbrev sO:Stmt:=top 15
theorem Ef:Sc ["thing"] ["thing"] sO:=bU
@[simp] noncomputable def yw:Qd 2 ["thing"] "is_lot" sO fun P w K m o Z=>∀{t_MOST_PLACES},DefD P w K m o 2 "are_weights" ["thing", "many"] v0->Gi m "MOST_PLACES" 25 t_MOST_PLACES->Nn m "any"->Nn m "isinstance"->Nn m "len"->Nn m "tuple"->Z:=
 ⟨_,fun ya yb yc yd ye yf hr=>(aq (bA (DW.dt (fK (bQ (bw (aJ bK yd (aj (aa 0) (aj (eX (T := "tuple") yf) ak))) (fun _=>rfl))) (eF (bQ (FN qb qb aA (aJ call_lenD ye (aj (aa 0) ak)) (G9 yb))))))
  (az (aD bL))
  aY)
  (az (aD (iY (aB ya hr aH (aj (aa 0) (aj (aJ call_lenD ye (aj (aa 0) ak)) ak))) (iZ (aJ (Cq hr.hd) yc (aj (aa 0) ak)))))))⟩
noncomputable def wY:=(yw v0).1
abbrev ie:Stmt:=top 16
theorem sV:Sc ["thing"] ["thing"] ie:=bU
@[simp] noncomputable def lW:Qd 3 ["thing"] "refuse_no_lot" ie fun P w K m o Z=>∀{F0 t_MOST_PLACES},DefD P w K m o 3 "is_lot" ["thing"] v0->XTab K m ww F0->Gi m "MOST_PLACES" 25 t_MOST_PLACES->Z:=
 ⟨_,fun ya yb yc hr=>(az (bA (bQ (bw (aB ya hr aH (aj (aa 0) ak)) (fun _=>rfl)))
  (az (xq yb (by decide) (Fx eE (Jg (G9 yc)) eE)))
  aY))⟩
noncomputable def gH:=(lW v0).1
abbrev dX:Stmt:=top 17
theorem nH:Sc ["one", "other"] ["one", "other"] dX:=bU
@[simp] noncomputable def gQ:Qd 4 ["one", "other"] "refuse_unlike_lots" dX fun P w K m o Z=>∀{F0},DefD P w K m o 4 "refuse_no_lot" ["thing"] v0->XTab K m ww F0->Nn m "len"->Z:=
 ⟨_,fun ya yb yc hr=>(aq (eN (aB ya hr aH (aj (aa 0) ak)))
  (aq (eN (aB ya hr aH (aj (aa 1) ak)))
  (az (bA (bz (cz hr.units) (aJ call_lenD yc (aj (aa 0) ak)) (aJ call_lenD yc (aj (aa 1) ak)))
  (az (xq yb (by decide) eE))
  aY))))⟩
noncomputable def cI:=(gQ v0).1
abbrev qt:Stmt:=top 19
theorem ux:Sc ["one", "other", "common", "first", "second"] ["one", "other"] qt:=bU
@[simp] noncomputable def vY:Qe 2 ["one", "other", "common", "first", "second"] "brought" qt fun D n Z=>D 2 "least_multiple" ["one", "other"] v0->n "sum"->n "tuple"->Z:=
 ⟨_,fun ya yb yc hr=>have nd:=ux.nd;(aq (aW (i:=2) nd rfl (Or.inr rfl) (aB ya hr aH (aj (aJ (bx hr.hd) yb (aj (aa 0) ak)) (aj (aJ (bx hr.hd) yb (aj (aa 1) ak)) ak))))
  (aq (aW (i:=3) nd rfl (Or.inl rfl) (bV (T := "tuple") aX yc (aj (cW "weight" [2,0] ["common", "one"] (bO (aa 0)) (aF eQ (aa 0) (aF iH (aa 1) (aJ (bx hr.hd) yb (aj (aa 2) ak))))) ak)))
  (aq (aW (i:=4) nd rfl (Or.inl rfl) (bV (T := "tuple") aX yc (aj (cW "weight" [2,1] ["common", "other"] (bO (aa 1)) (aF eQ (aa 0) (aF iH (aa 1) (aJ (bx hr.hd) yb (aj (aa 2) ak))))) ak)))
  (az (aD (bj (aj (aa 3) (aj (aa 4) ak))))))))⟩
noncomputable def vG:=(vY v0).1
abbrev gk:Stmt:=top 20
theorem qW:Sc ["first", "second"] ["first", "second"] gk:=bU
@[simp] noncomputable def lg:Qe 0 ["first", "second"] "places_of_more" gk fun D n Z=>n "len"->n "range"->n "tuple"->Z:=
 ⟨_,fun ya yb yc hr=>(az (aD (bV (T := "tuple") aX yc (aj (iC (own:=["place"]) (js:=[0,1]) (fr:=["first", "second"]) .val rfl (by trivial) (bu rfl yb (aj (aJ call_lenD ya (aj (aa 0) ak)) ak)) (fun _ _ _ _ _ _=>(aG (i:=0) (pB ["place", "first", "second"]) rfl (Or.inl rfl))) (fun _ _ _ _ _ _=>(Hz (bz Dv (aM aQ (aa 1) (aa 0)) (aM aQ (aa 2) (aa 0))))) (fun _ _ _ _ _ _=>(aa 0))) ak))))⟩
noncomputable def kh:=(lg).1
abbrev qu:Stmt:=top 21
theorem Bs:Sc ["first", "second", "places"] ["first", "second", "places"] qu:=bU
@[simp] noncomputable def vZ:Qe 0 ["first", "second", "places"] "more_in" qu fun D n Z=>n "sum"->Z:=
 ⟨_,fun ya hr=>(az (aD (aJ (bx hr.hd) ya (aj (cW "place" [0,1] ["first", "second"] (bO (aa 2)) (aF cJ (aM aQ (aa 1) (aa 0)) (aM aQ (aa 2) (aa 0)))) ak))))⟩
noncomputable def vH:=(vZ).1
abbrev uX:Stmt:=top 22
theorem yO:Sc ["first", "second", "thing", "many", "columns"] ["first", "second", "thing"] uX:=bU
@[simp] noncomputable def zV:Qe 3 ["first", "second", "thing", "many", "columns"] "joins" uX fun D n Z=>D 3 "are_rows" ["thing", "many"] v0->n "len"->n "list"->n "range"->n "sum"->n "tuple"->Z:=
 ⟨_,fun ya yb yc yd ye yf hr=>have nd:=yO.nd;(aq (aW (i:=3) nd rfl (Or.inl rfl) (aJ call_lenD yb (aj (aa 0) ak)))
  (aq (bA (bQ (bw (aB ya hr aH (aj (aa 2) (aj (aa 3) ak))) (fun _=>rfl)))
  (az (aD bL))
  aY)
  (aq (km (i:=4) (own:=["place"]) (js:=[2]) (fr:=["thing"]) .val nd rfl (Or.inl rfl) rfl (by trivial) (bu rfl yd (aj (aa 3) ak)) (fun _ _ _ _ _ _=>(aG (i:=0) (pB ["place", "thing"]) rfl (Or.inr rfl))) (fun _ _ _ _ _ _=>eO) (fun _ _ _ _ _ _=>(bV (T := "tuple") aX yf (aj (cW "row" [0] ["place"] (bO (aa 1)) (aM aQ (aa 0) (aa 1))) ak))))
  (az (aD (iY (gK (cR hr.units) (cW "row" [] [] (bO (aa 2)) (aJ (bx hr.hd) ye (aj (aa 0) ak))) (bV (T := "list") cU yc (aj (aa 0) ak))) (iZ (gK (cR hr.units) (cW "column" [] [] (fj (aa 4)) (aJ (bx hr.hd) ye (aj (aa 0) ak))) (bV (T := "list") cU yc (aj (aa 1) ak))))))))))⟩
noncomputable def uD:=(zV v0).1
abbrev sS:Stmt:=top 23
theorem Ei:Sc ["joining"] ["joining"] sS:=bU
@[simp] noncomputable def yx:Qe 0 ["joining"] "parted" sS fun D n Z=>n "enumerate"->n "sum"->Z:=
 ⟨_,fun ya yb hr=>(az (aD (aJ (bx hr.hd) yb (aj (iC (own:=["place", "row"]) (js:=[]) (fr:=[]) .val rfl (by trivial) (zz rfl ya (aj (aa 0) ak)) (fun _ _ _ _ _ _=>(cX (n:=2) rfl (aN (aG (i:=0) (pB ["place", "row"]) rfl (Or.inl rfl)) (aN (aG (i:=1) (pB ["place", "row"]) rfl (Or.inl rfl)) cj)))) (fun _ _ _ _ _ _=>eO) (fun _ _ _ _ _ _=>(aF cJ (aJ (bx hr.hd) yb (aj (aa 1) ak)) (aM aQ (aa 1) (aa 0))))) ak))))⟩
noncomputable def wZ:=(yx).1
abbrev gZ:Stmt:=top 24
theorem lF:Sc ["first", "second", "many", "joining", "place", "left", "wanted", "x", "y", "moved"] ["first", "second"] gZ:=bU
@[simp] noncomputable def gP:Qe 0 ["first", "second", "many", "joining", "place", "left", "wanted", "x", "y", "moved"] "least_joining" gZ fun D n Z=>n "len"->n "min"->n "range"->n "tuple"->Z:=
 ⟨_,fun ya yb yc yd hr=>have nd:=lF.nd;(aq (aW (i:=2) nd rfl (Or.inr rfl) (aJ call_lenD ya (aj (aa 0) ak)))
  (aq (aW (i:=3) nd rfl (Or.inr rfl) (cW "place" [2] ["many"] (bu rfl yc (aj (aa 2) ak)) (aF zQ (bM (aj aA ak)) (aa 1))))
  (aq (cY 0 PassesOwn.leaving rfl (bu rfl yc (aj (aa 2) ak)) (aG (i:=4) nd rfl (Or.inl rfl))
  (az (b8 (aJ (jJ rfl) yb (aj (aM aQ (aa 0) (aa 4)) (aj (aM aQ (aa 1) (aa 4)) ak))) (kj (aM aQ (aa 3) (aa 4)) (aa 4) lZ))))
  (aq (km (i:=5) (own:=["place"]) (js:=[0,3]) (fr:=["first", "joining"]) .sto nd rfl (Or.inl rfl) rfl (by trivial) (bu rfl yc (aj (aa 2) ak)) (fun _ _ _ _ _ _=>(aG (i:=0) (pB ["place", "first", "joining"]) rfl (Or.inl rfl))) (fun _ _ _ _ _ _=>eO) (fun _ _ _ _ _ _=>(aF cJ (aM aQ (aa 1) (aa 0)) (aM aQ (aM aQ (aa 2) (aa 0)) (aa 0)))))
  (aq (km (i:=6) (own:=["place"]) (js:=[1,3]) (fr:=["second", "joining"]) .sto nd rfl (Or.inl rfl) rfl (by trivial) (bu rfl yc (aj (aa 2) ak)) (fun _ _ _ _ _ _=>(aG (i:=0) (pB ["place", "second", "joining"]) rfl (Or.inl rfl))) (fun _ _ _ _ _ _=>eO) (fun _ _ _ _ _ _=>(aF cJ (aM aQ (aa 1) (aa 0)) (aM aQ (aM aQ (aa 2) (aa 0)) (aa 0)))))
  (aq (cY 0 PassesOwn.leaving rfl (bu rfl yc (aj (aa 2) ak)) (aG (i:=7) nd rfl (Or.inl rfl))
  (az (cY 0 PassesOwn.leaving rfl (bu rfl yc (aj (aa 2) ak)) (aG (i:=8) nd rfl (Or.inl rfl))
  (aq (aW (i:=9) nd rfl (Or.inl rfl) (aJ (jJ rfl) yb (aj (aM aQ (aa 5) (aa 7)) (aj (aM aQ (aa 6) (aa 8)) ak))))
  (aq (uG (aM aQ (aa 3) (aa 7)) (aa 8) Gr (aa 9))
  (aq (uG (aa 5) (aa 7) xV (aa 9))
  (az (uG (aa 6) (aa 8) xV (aa 9)))))))))
  (az (aD (bV (T := "tuple") aX yd (aj (cW "row" [] [] (fj (aa 3)) (bV (T := "tuple") aX yd (aj (aa 0) ak))) ak))))))))))⟩
noncomputable def lK:=(gP).1
abbrev lD:Stmt:=top 25
theorem pJ:Sc ["one", "other", "thing", "first", "second"] ["one", "other", "thing"] lD:=bU
@[simp] noncomputable def qe:Qe 5 ["one", "other", "thing", "first", "second"] "is_joining" lD fun D n Z=>D 5 "refuse_unlike_lots" ["one", "other"] v0->D 3 "brought" ["one", "other"] v1->D 4 "joins" ["first", "second", "thing"] v2->Z:=
 ⟨_,fun ya yb yc hr=>have nd:=pJ.nd;(aq (eN (aB ya hr aH (aj (aa 0) (aj (aa 1) ak))))
  (aq (b8 (aB yb hr aH (aj (aa 0) (aj (aa 1) ak))) (cX (n:=2) rfl (aN (aG (i:=3) nd rfl (Or.inl rfl)) (aN (aG (i:=4) nd rfl (Or.inl rfl)) cj))))
  (az (aD (aB yc hr aH (aj (aa 3) (aj (aa 4) (aj (aa 2) ak))))))))⟩
noncomputable def jY:=(qe v0 v1 v2).1
abbrev oV:Stmt:=top 26
theorem rQ:Sc ["one", "other", "thing", "first", "second", "places", "joining"] ["one", "other", "thing"] oV:=bU
@[simp] noncomputable def uo:Qe 5 ["one", "other", "thing", "first", "second", "places", "joining"] "is_paper" oV fun D n Z=>D 5 "refuse_unlike_lots" ["one", "other"] v0->D 3 "brought" ["one", "other"] v1->D 4 "joins" ["first", "second", "thing"] v2->D 3 "are_rising_places" ["thing", "many"] v3->D 1 "more_in" ["first", "second", "places"] v4->D 1 "parted" ["joining"] v5->n "isinstance"->n "len"->n "tuple"->Z:=
 ⟨_,fun ya yb yc yd ye yf yg yh yi hr=>have nd:=rQ.nd;(aq (eN (aB ya hr aH (aj (aa 0) (aj (aa 1) ak))))
  (aq (bA (DW.dt (fK (bQ (bw (aJ bK yg (aj (aa 2) (aj (eX (T := "tuple") yi) ak))) (fun _=>rfl))) (eF (bz (cz hr.units) (aJ call_lenD yh (aj (aa 2) ak)) aA))))
  (az (aD bL))
  aY)
  (aq (b8 (aB yb hr aH (aj (aa 0) (aj (aa 1) ak))) (cX (n:=2) rfl (aN (aG (i:=3) nd rfl (Or.inl rfl)) (aN (aG (i:=4) nd rfl (Or.inl rfl)) cj))))
  (aq (b8 (aa 2) (cX (n:=2) rfl (aN (aG (i:=5) nd rfl (Or.inl rfl)) (aN (aG (i:=6) nd rfl (Or.inl rfl)) cj))))
  (aq (bA (DW.dt (fK (bQ (bw (aB yd hr aH (aj (aa 5) (aj (aJ call_lenD yh (aj (aa 3) ak)) ak))) (fun _=>rfl))) (eF (bQ (bw (aB yc hr aH (aj (aa 3) (aj (aa 4) (aj (aa 6) ak)))) (fun _=>rfl))))))
  (az (aD bL))
  aY)
  (az (aD (gK (cR hr.units) (aB ye hr aH (aj (aa 3) (aj (aa 4) (aj (aa 5) ak)))) (aB yf hr aH (aj (aa 6) ak))))))))))⟩
noncomputable def dU:=(uo v0 v1 v2 v3 v4 v5).1
abbrev oY:Stmt:=top 27
theorem rR:Sc ["one", "other", "first", "second"] ["one", "other"] oY:=bU
@[simp] noncomputable def oA:Qe 5 ["one", "other", "first", "second"] "paper_of" oY fun D n Z=>D 5 "refuse_unlike_lots" ["one", "other"] v0->D 3 "brought" ["one", "other"] v1->D 1 "least_joining" ["first", "second"] v2->D 1 "places_of_more" ["first", "second"] v3->Z:=
 ⟨_,fun ya yb yc yd hr=>have nd:=rR.nd;(aq (eN (aB ya hr aH (aj (aa 0) (aj (aa 1) ak))))
  (aq (b8 (aB yb hr aH (aj (aa 0) (aj (aa 1) ak))) (cX (n:=2) rfl (aN (aG (i:=2) nd rfl (Or.inl rfl)) (aN (aG (i:=3) nd rfl (Or.inl rfl)) cj))))
  (az (aD (bj (aj (aB yd hr aH (aj (aa 2) (aj (aa 3) ak))) (aj (aB yc hr aH (aj (aa 2) (aj (aa 3) ak))) ak)))))))⟩
noncomputable def nU:=(oA v0 v1 v2 v3).1
abbrev iM:Stmt:=top 29
theorem uw:Sc ["_law_script", "_law_k"] ["_law_script", "_law_k"] iM:=bU
@[simp] noncomputable def nu:Qe 0 ["_law_script", "_law_k"] "_law_cell_at" iM fun D n Z=>n "len"->Z:=
 ⟨_,fun ya hr=>(aq (bA (bz xW (aa 1) (aJ call_lenD ya (aj (aa 0) ak)))
  (az (aD (aM aQ (aa 0) (aa 1))))
  aY)
  (az (aD aA)))⟩
noncomputable def iB:=(nu).1
abbrev oR:Stmt:=top 30
theorem rP:Sc ["_law_cell", "_law_number", "_law_j", "_law_more"] ["_law_cell"] oR:=bU
@[simp] noncomputable def ul:Qe 0 ["_law_cell", "_law_number", "_law_j", "_law_more"] "_law_pot" oR fun D n Z=>n "range"->Z:=
 ⟨_,fun ya hr=>have nd:=rP.nd;(aq (bA (bz xU (aa 0) (aF m8 aA aA))
  (az (aD (qF (aj (aF cJ (aa 0) (aF m8 aA aA)) ak))))
  aY)
  (aq (aW (i:=1) nd rfl (Or.inl rfl) aA)
  (aq (cY 0 PassesOwn.leaving rfl (bu rfl ya (aj aA ak)) (aG (i:=2) nd rfl (Or.inl rfl))
  (aq (aW (i:=3) nd rfl (Or.inl rfl) (aF jO (aF eQ (aF aV (aF aV (aF jO (aa 0) aA) (aF eQ aA (aa 2))) aA) aA) aA))
  (aq (aW (i:=3) nd rfl (Or.inl rfl) (aF jO (aF aV (aF aV (aF eQ (aa 3) (aa 3)) (aF eQ aA (aa 2))) aA) aA))
  (az (aW (i:=1) nd rfl (Or.inl rfl) (aF aV (aF eQ (aa 1) aA) (aa 3)))))))
  (az (aD (qF (aj (aa 1) ak)))))))⟩
noncomputable def nR:=(ul).1
abbrev mH:Stmt:=top 31
theorem qx:Sc ["_law_pot_here", "_law_far", "_law_found"] ["_law_pot_here", "_law_far"] mH:=bU
@[simp] noncomputable def rJ:Qe 0 ["_law_pot_here", "_law_far", "_law_found"] "_law_take" mH fun _ _ Z=>Z:=
 ⟨_,fun  hr=>have nd:=qx.nd;(aq (aW (i:=2) nd rfl (Or.inl rfl) (aF jO (aM aQ (aa 0) aA) (aa 1)))
  (aq (b8 (aF iH (aM aQ (aa 0) aA) (aa 1)) (kj (aa 0) aA lZ))
  (az (aD (aa 2)))))⟩
noncomputable def rE:=(rJ).1
abbrev lC:Stmt:=top 32
theorem wA:Sc ["_law_thing"] ["_law_thing"] lC:=bU
@[simp] noncomputable def qd:Qe 0 ["_law_thing"] "_law_whole" lC fun D n Z=>n "bool"->n "int"->n "isinstance"->Z:=
 ⟨_,fun ya yb yc hr=>(az (aD (iY (aJ bK yc (aj (aa 0) (aj (eX (T := "int") yb) ak))) (iZ (CG (aJ bK yc (aj (aa 0) (aj (eX (T := "bool") ya) ak))))))))⟩
noncomputable def jX:=(qd).1
abbrev ju:Stmt:=top 33
theorem uZ:Sc ["_law_thing", "_law_low", "_law_high"] ["_law_thing", "_law_low", "_law_high"] ju:=bU
@[simp] noncomputable def pF:Qe 1 ["_law_thing", "_law_low", "_law_high"] "_law_within" ju fun D n Z=>D 1 "_law_whole" ["_law_thing"] v0->Z:=
 ⟨_,fun ya hr=>(az (aD (iY (aB ya hr aH (aj (aa 0) ak)) (iZ (xm qb qb (aa 1) (aa 0) (aa 2))))))⟩
noncomputable def fZ:=(pF v0).1
abbrev lB:Stmt:=top 34
theorem pI:Sc ["_law_pot_here", "_law_some", "_law_left"] ["_law_pot_here", "_law_some"] lB:=bU
@[simp] noncomputable def kY:Qe 1 ["_law_pot_here", "_law_some", "_law_left"] "_law_mixed" lB fun D n Z=>D 1 "_law_take" ["_law_pot_here", "_law_far"] v0->n "len"->n "list"->Z:=
 ⟨_,fun ya yb yc hr=>have nd:=pI.nd;(aq (aW (i:=2) nd rfl (Or.inr rfl) (bV (T := "list") jH yc (aj (aa 1) ak)))
  (az (aD (cW "_law_one" [2,0] ["_law_left", "_law_pot_here"] (fj (aa 1)) (tR PySem.F.plainAttrs_list PySem.F.slot_list_pop PySem.F.type_list_pop HW (aa 1) (aj (aB ya hr gO (aj (aa 2) (aj (aJ call_lenD yb (aj (aa 1) ak)) ak))) ak))))))⟩
noncomputable def pN:=(kY v0).1
abbrev oO:Stmt:=top 35
theorem rO:Sc ["_law_pot_here", "_law_some"] ["_law_pot_here"] oO:=bU
@[simp] noncomputable def ou:Qe 1 ["_law_pot_here", "_law_some"] "_law_odd" oO fun D n Z=>D 1 "_law_take" ["_law_pot_here", "_law_far"] v0->n "len"->Z:=
 ⟨_,fun ya yb hr=>have nd:=rO.nd;(aq (aW (i:=1) nd rfl (Or.inl rfl) (bM (aj pR (aj bL (aj bL (aj (pQ aA) (aj (aF m8 aA aA) (aj eE (aj eE (aj eE (aj (bj ak) (aj (bM ak) (aj Hw (aj (bM (aj (bj ak) ak)) (aj (bj (aj (bj ak) ak)) (aj (bj (aj aA ak)) (aj (bM (aj aA ak)) (aj Hx (aj (bj (aj bL (aj bL ak))) ak)))))))))))))))))))
  (az (aD (aM aQ (aa 1) (aB ya hr aH (aj (aa 0) (aj (aJ call_lenD yb (aj (aa 1) ak)) ak)))))))⟩
noncomputable def tM:=(ou v0).1
abbrev iW:Stmt:=top 36
theorem lE:Sc ["_law_pot_here", "_law_thing", "_law_way", "_law_at"] ["_law_pot_here", "_law_thing"] iW:=bU
@[simp] noncomputable def mC(v0 v1 v2 v3:Fn):{b // ∀{P w K mg base f cdv A outer s H E k_} (hk_:2≤k_) (ya:DefD P w K mg base 1 "_law_take" ["_law_pot_here", "_law_far"] v0) (yb:DefD P w K mg base 1 "_law_whole" ["_law_thing"] v1) (yc:DefD P w K mg base 2 "_law_odd" ["_law_pot_here"] v2) (yd:DefD P w K mg base k_ "_law_bent" ["_law_pot_here", "_law_thing"] v3) (ye:Nn mg "isinstance") (yf:Nn mg "len") (yg:Nn mg "list") (yh:Nn mg "tuple") (hq_:Rm k_ A "_law_bent" iW s f cdv),Ds P w K mg base ["_law_pot_here", "_law_thing", "_law_way", "_law_at"] "_law_bent" iW f cdv A outer s H E b}:=
 ⟨_,fun hk_ ya yb yc yd ye yf yg yh hq_=>have hr:=hq_.mono hk_;have nd:=lE.nd;(aq (bA (bQ (bw (aJ bK ye (aj (aa 1) (aj (eX (T := "tuple") yh) ak))) (fun _=>rfl)))
  (aq (bA (DW.dt (Jj (bw (aB yb hr aH (aj (aa 1) ak)) (fun _=>rfl)) (HB (bz Dv (aB ya hr aH (aj (aa 0) (aj aA ak))) aA))))
  (az (aD (aF aV (aa 1) (aM aQ (bM (aj aA (aj (pQ aA) (aj aA (aj aA (aj aA (aj (pQ (aF m8 aA aA)) ak))))))) (aB ya hr aH (aj (aa 0) (aj aA ak)))))))
  aY)
  (az (aD (aB yc hr aH (aj (aa 0) ak)))))
  aY)
  (aq (aW (i:=2) nd rfl (Or.inl rfl) (aB ya hr aH (aj (aa 0) (aj aA ak))))
  (aq (bA (DW.dt (fK (bz (cR hr.units) (aa 2) aA) (eF (bz (Ib hr.units) (aa 1) (bj ak)))))
  (az (aD (aM aQ (bM (aj (aB yc hr aH (aj (aa 0) ak)) (aj (bV (T := "list") cU yg (aj (aa 1) ak)) (aj (aF aV (aa 1) (bj (aj (aB yc hr aH (aj (aa 0) ak)) ak))) (aj (aF aV (aa 1) (dq (aa 1) (dD (pQ aA)) fJ)) ak))))) (aB ya hr aH (aj (aa 0) (aj aA ak))))))
  aY)
  (aq (aW (i:=3) nd rfl (Or.inl rfl) (aB ya hr aH (aj (aa 0) (aj (aJ call_lenD yf (aj (aa 1) ak)) ak))))
  (aq (bA (bz (cR hr.units) (aa 2) aA)
  (az (aD (aF aV (dq (aa 1) fJ (dD (aa 3))) (dq (aa 1) (dD (aF aV (aa 3) aA)) fJ))))
  aY)
  (aq (bA (bz (cR hr.units) (aa 2) aA)
  (az (aD (aF aV (aF aV (dq (aa 1) fJ (dD (aa 3))) (dq (aa 1) (dD (aa 3)) (dD (aF aV (aa 3) aA)))) (dq (aa 1) (dD (aa 3)) fJ))))
  aY)
  (az (aD (aF aV (aF aV (dq (aa 1) fJ (dD (aa 3))) (bj (aj (aB yd hq_ aH (aj (aa 0) (aj (aM aQ (aa 1) (aa 3)) ak)) (Nat.le_refl _)) ak))) (dq (aa 1) (dD (aF aV (aa 3) aA)) fJ))))))))))⟩
noncomputable def rA:=(mC v0 v1 v2 v3).1
abbrev oM:Stmt:=top 37
theorem rM:Sc ["_law_one", "_law_other"] ["_law_one", "_law_other"] oM:=bU
@[simp] noncomputable def oh:Qe 0 ["_law_one", "_law_other"] "_law_gcd" oM fun D n Z=>n "abs"->Z:=
 ⟨_,fun ya hr=>have nd:=rM.nd;(aq (xn (i:=0) (j:=1) rfl nd rfl rfl (by decide) rfl rfl (aj (aJ vI ya (aj (aa 0) ak)) (aj (aJ vI ya (aj (aa 1) ak)) ak)) rfl)
  (aq (xr N PassesOwn.leaving (bz (cz hr.units) (aa 1) aA) (az (xn (i:=0) (j:=1) rfl nd rfl rfl (by decide) rfl rfl (aj (aa 1) (aj (aF jO (aa 0) (aa 1)) ak)) rfl)))
  (az (aD (aa 0)))))⟩
noncomputable def gG:=(oh N).1
abbrev oN:Stmt:=top 38
theorem rN:Sc ["_law_pot_here", "_law_wide", "_law_found", "_law_turn"] ["_law_pot_here", "_law_wide"] oN:=bU
@[simp] noncomputable def uh:Qe 1 ["_law_pot_here", "_law_wide", "_law_found", "_law_turn"] "_law_lot" oN fun D n Z=>D 1 "_law_take" ["_law_pot_here", "_law_far"] v0->n "range"->n "tuple"->Z:=
 ⟨_,fun ya yb yc hr=>have nd:=rN.nd;(aq (aW (i:=2) nd rfl (Or.inl rfl) (qF ak))
  (aq (cY 0 PassesOwn.leaving rfl (bu rfl yb (aj (aa 1) ak)) (aG (i:=3) nd rfl (Or.inl rfl))
  (az (eN (tR PySem.F.plainAttrs_list PySem.F.slot_list_append PySem.F.type_list_append zM (aa 2) (aj (aM aQ (bM (aj aA (aj aA (aj (aB ya hr aH (aj (aa 0) (aj aA ak))) (aj (aB ya hr aH (aj (aa 0) (aj aA ak))) (aj (aB ya hr aH (aj (aa 0) (aj (aF m8 aA aA) ak))) ak)))))) (aB ya hr aH (aj (aa 0) (aj aA ak)))) ak)))))
  (aq (b8 (aF aV (aM aQ (aa 2) aA) aA) (kj (aa 2) (aB ya hr aH (aj (aa 0) (aj (aa 1) ak))) lZ))
  (az (aD (bV (T := "tuple") aX yc (aj (aa 2) ak)))))))⟩
noncomputable def tL:=(uh v0).1
abbrev iK:Stmt:=top 39
theorem lX:Sc ["_law_one", "_law_other", "_law_by", "_law_mine", "_law_yours"] ["_law_one", "_law_other"] iK:=bU
@[simp] noncomputable def nq:Qe 1 ["_law_one", "_law_other", "_law_by", "_law_mine", "_law_yours"] "_law_brought" iK fun D n Z=>D 1 "_law_gcd" ["_law_one", "_law_other"] v0->n "sum"->n "tuple"->Z:=
 ⟨_,fun ya yb yc hr=>have nd:=lX.nd;(aq (aW (i:=2) nd rfl (Or.inl rfl) (aB ya hr aH (aj (aJ (bx hr.hd) yb (aj (aa 0) ak)) (aj (aJ (bx hr.hd) yb (aj (aa 1) ak)) ak))))
  (aq (b8 (bj (aj (aF iH (aJ (bx hr.hd) yb (aj (aa 1) ak)) (aa 2)) (aj (aF iH (aJ (bx hr.hd) yb (aj (aa 0) ak)) (aa 2)) ak))) (cX (n:=2) rfl (aN (aG (i:=3) nd rfl (Or.inr rfl)) (aN (aG (i:=4) nd rfl (Or.inr rfl)) cj))))
  (az (aD (bj (aj (bV (T := "tuple") aX yc (aj (cW "_law_weight" [3] ["_law_mine"] (bO (aa 0)) (aF eQ (aa 0) (aa 1))) ak)) (aj (bV (T := "tuple") aX yc (aj (cW "_law_weight" [4] ["_law_yours"] (bO (aa 1)) (aF eQ (aa 0) (aa 1))) ak)) ak)))))))⟩
noncomputable def mU:=(nq v0).1
abbrev mF:Stmt:=top 40
theorem qw:Sc ["_law_wide", "_law_found", "_law_place"] ["_law_wide"] mF:=bU
@[simp] noncomputable def mD:Qe 0 ["_law_wide", "_law_found", "_law_place"] "_law_sets" mF fun D n Z=>n "range"->Z:=
 ⟨_,fun ya hr=>have nd:=qw.nd;(aq (aW (i:=1) nd rfl (Or.inl rfl) (bM (aj (bj ak) ak)))
  (aq (cY 0 PassesOwn.leaving rfl (bu rfl ya (aj (aa 0) ak)) (aG (i:=2) nd rfl (Or.inr rfl))
  (az (aW (i:=1) nd rfl (Or.inl rfl) (aF aV (aa 1) (cW "_law_some" [2] ["_law_place"] (fj (aa 1)) (aF aV (aa 0) (bj (aj (aa 1) ak))))))))
  (az (aD (aa 1)))))⟩
noncomputable def rB:=(mD).1
abbrev fV:Stmt:=top 41
theorem jf:Sc ["_law_one", "_law_other", "_law_thing", "_law_mine", "_law_yours", "_law_row"] ["_law_one", "_law_other", "_law_thing"] fV:=bU
@[simp] noncomputable def fQ:Qe 2 ["_law_one", "_law_other", "_law_thing", "_law_mine", "_law_yours", "_law_row"] "_law_is_joining" fV fun D n Z=>D 2 "_law_brought" ["_law_one", "_law_other"] v0->D 1 "_law_whole" ["_law_thing"] v1->n "all"->n "isinstance"->n "len"->n "range"->n "sum"->n "tuple"->Z:=
 ⟨_,fun ya yb yc yd ye yf yg yh hr=>have nd:=jf.nd;(aq (b8 (aB ya hr aH (aj (aa 0) (aj (aa 1) ak))) (cX (n:=2) rfl (aN (aG (i:=3) nd rfl (Or.inl rfl)) (aN (aG (i:=4) nd rfl (Or.inl rfl)) cj))))
  (aq (bA (DW.dt (fK (bQ (bw (aJ bK yd (aj (aa 2) (aj (eX (T := "tuple") yh) ak))) (fun _=>rfl))) (eF (bz (cz hr.units) (aJ call_lenD ye (aj (aa 2) ak)) (aJ call_lenD ye (aj (aa 3) ak))))))
  (az (aD bL))
  aY)
  (aq (cY 0 PassesOwn.leaving rfl (bO (aa 2)) (aG (i:=5) nd rfl (Or.inl rfl))
  (aq (bA (DW.dt (fK (bQ (bw (aJ bK yd (aj (aa 5) (aj (eX (T := "tuple") yh) ak))) (fun _=>rfl))) (eF (bz (cz hr.units) (aJ call_lenD ye (aj (aa 5) ak)) (aJ call_lenD ye (aj (aa 3) ak))))))
  (az (aD bL))
  aY)
  (az (bA (bQ (bw (aJ (gq hr.hd) yc (aj (cW "_law_weight" [] [] (bO (aa 5)) (iY (aB yb hr gO (aj (aa 0) ak)) (iZ (gK xU (aa 0) aA)))) ak)) (fun _=>rfl)))
  (az (aD bL))
  aY))))
  (aq (bA (bz (cz hr.units) (bV (T := "tuple") aX yh (aj (cW "_law_row" [] [] (bO (aa 2)) (aJ (bx hr.hd) yg (aj (aa 0) ak))) ak)) (aa 3))
  (az (aD bL))
  aY)
  (az (aD (gK (cR hr.units) (bV (T := "tuple") aX yh (aj (iC (own:=["_law_y"]) (js:=[2]) (fr:=["_law_thing"]) .val rfl (by trivial) (bu rfl yf (aj (aJ call_lenD ye (aj (aa 3) ak)) ak)) (fun _ _ _ _ _ _=>(aG (i:=0) (pB ["_law_y", "_law_thing"]) rfl (Or.inr rfl))) (fun _ _ _ _ _ _=>eO) (fun _ _ _ _ _ _=>(aJ (bx hr.hd) yg (aj (cW "_law_row" [0] ["_law_y"] (bO (aa 1)) (aM aQ (aa 0) (aa 1))) ak)))) ak)) (aa 4))))))))⟩
noncomputable def dB:=(fQ v0 v1).1
abbrev jr:Stmt:=top 42
theorem uY:Sc ["_law_joining_here"] ["_law_joining_here"] jr:=bU
@[simp] noncomputable def pD:Qe 0 ["_law_joining_here"] "_law_parted" jr fun D n Z=>n "enumerate"->n "sum"->Z:=
 ⟨_,fun ya yb hr=>(az (aD (aJ (bx hr.hd) yb (aj (iC (own:=["_law_x", "_law_row"]) (js:=[]) (fr:=[]) .val rfl (by trivial) (zz rfl ya (aj (aa 0) ak)) (fun _ _ _ _ _ _=>(cX (n:=2) rfl (aN (aG (i:=0) (pB ["_law_x", "_law_row"]) rfl (Or.inl rfl)) (aN (aG (i:=1) (pB ["_law_x", "_law_row"]) rfl (Or.inl rfl)) cj)))) (fun _ _ _ _ _ _=>eO) (fun _ _ _ _ _ _=>(aF cJ (aJ (bx hr.hd) yb (aj (aa 1) ak)) (aM aQ (aa 1) (aa 0))))) ak))))⟩
noncomputable def pq:=(pD).1
abbrev jq:Stmt:=top 43
theorem nF:Sc ["_law_one", "_law_other", "_law_places", "_law_mine", "_law_yours"] ["_law_one", "_law_other", "_law_places"] jq:=bU
@[simp] noncomputable def pC:Qe 2 ["_law_one", "_law_other", "_law_places", "_law_mine", "_law_yours"] "_law_excess" jq fun D n Z=>D 2 "_law_brought" ["_law_one", "_law_other"] v0->n "sum"->Z:=
 ⟨_,fun ya yb hr=>have nd:=nF.nd;(aq (b8 (aB ya hr aH (aj (aa 0) (aj (aa 1) ak))) (cX (n:=2) rfl (aN (aG (i:=3) nd rfl (Or.inr rfl)) (aN (aG (i:=4) nd rfl (Or.inr rfl)) cj))))
  (az (aD (aJ (bx hr.hd) yb (aj (cW "_law_place" [3,4] ["_law_mine", "_law_yours"] (bO (aa 2)) (aF cJ (aM aQ (aa 1) (aa 0)) (aM aQ (aa 2) (aa 0)))) ak)))))⟩
noncomputable def ph:=(pC v0).1
abbrev iQ:Stmt:=top 44
theorem lY:Sc ["_law_pot_here", "_law_one", "_law_other", "_law_mine", "_law_yours", "_law_left", "_law_lacks", "_law_rows", "_law_spots", "_law_x", "_law_y", "_law_part"] ["_law_pot_here", "_law_one", "_law_other"] iQ:=bU
@[simp] noncomputable def iI:Qe 2 ["_law_pot_here", "_law_one", "_law_other", "_law_mine", "_law_yours", "_law_left", "_law_lacks", "_law_rows", "_law_spots", "_law_x", "_law_y", "_law_part"] "_law_joining" iQ fun D n Z=>D 2 "_law_brought" ["_law_one", "_law_other"] v0->D 2 "_law_mixed" ["_law_pot_here", "_law_some"] v1->n "len"->n "list"->n "min"->n "range"->n "tuple"->Z:=
 ⟨_,fun ya yb yc yd ye yf yg hr=>have nd:=lY.nd;(aq (b8 (aB ya hr aH (aj (aa 1) (aj (aa 2) ak))) (cX (n:=2) rfl (aN (aG (i:=3) nd rfl (Or.inl rfl)) (aN (aG (i:=4) nd rfl (Or.inl rfl)) cj))))
  (aq (b8 (bj (aj (bV (T := "list") jH yd (aj (aa 3) ak)) (aj (bV (T := "list") jH yd (aj (aa 4) ak)) ak))) (cX (n:=2) rfl (aN (aG (i:=5) nd rfl (Or.inr rfl)) (aN (aG (i:=6) nd rfl (Or.inl rfl)) cj))))
  (aq (km (i:=7) (own:=["_law_weight"]) (js:=[5]) (fr:=["_law_left"]) .val nd rfl (Or.inl rfl) rfl (by trivial) (bO (aa 3)) (fun _ _ _ _ _ _=>(aG (i:=0) (pB ["_law_weight", "_law_left"]) rfl (Or.inl rfl))) (fun _ _ _ _ _ _=>eO) (fun _ _ _ _ _ _=>(aF zQ (bM (aj aA ak)) (aJ call_lenD yc (aj (aa 1) ak)))))
  (aq (aW (i:=8) nd rfl (Or.inl rfl) (bM ak))
  (aq (cY 0 PassesOwn.leaving rfl (bu rfl yf (aj (aJ call_lenD yc (aj (aa 5) ak)) ak)) (aG (i:=9) nd rfl (Or.inr rfl))
  (az (aW (i:=8) nd rfl (Or.inl rfl) (aF aV (aa 8) (cW "_law_y" [9] ["_law_x"] (bu rfl yf (aj (aJ call_lenD yc (aj (aa 5) ak)) ak)) (bj (aj (aa 1) (aj (aa 0) ak))))))))
  (aq (cY 0 PassesOwn.leaving rfl (fj (aB yb hr aH (aj (aa 0) (aj (aa 8) ak)))) (cX (n:=2) rfl (aN (aG (i:=9) nd rfl (Or.inr rfl)) (aN (aG (i:=10) nd rfl (Or.inl rfl)) cj)))
  (aq (aW (i:=11) nd rfl (Or.inl rfl) (aJ (jJ rfl) ye (aj (aM aQ (aa 5) (aa 9)) (aj (aM aQ (aa 6) (aa 10)) ak))))
  (aq (b8 (aa 11) (kj (aM aQ (aa 7) (aa 9)) (aa 10) lZ))
  (aq (b8 (aF cJ (aM aQ (aa 5) (aa 9)) (aa 11)) (kj (aa 5) (aa 9) lZ))
  (az (b8 (aF cJ (aM aQ (aa 6) (aa 10)) (aa 11)) (kj (aa 6) (aa 10) lZ)))))))
  (az (aD (bV (T := "tuple") aX yg (aj (cW "_law_row" [] [] (fj (aa 7)) (bV (T := "tuple") aX yg (aj (aa 0) ak))) ak))))))))))⟩
noncomputable def mV:=(iI v0 v1).1
abbrev gh:Stmt:=top 45
theorem qT:Sc ["_law_wide", "_law_thing"] ["_law_wide", "_law_thing"] gh:=bU
@[simp] noncomputable def kW:Qe 2 ["_law_wide", "_law_thing"] "_law_is_places" gh fun D n Z=>D 2 "_law_within" ["_law_thing", "_law_low", "_law_high"] v0->n "all"->n "isinstance"->n "list"->n "set"->n "sorted"->n "tuple"->Z:=
 ⟨_,fun ya yb yc yd ye yf yg hr=>(aq (bA (DW.dt (fK (bQ (bw (aJ bK yc (aj (aa 1) (aj (eX (T := "tuple") yg) ak))) (fun _=>rfl))) (eF (bQ (bw (aJ (gq hr.hd) yb (aj (cW "_law_one" [0] ["_law_wide"] (bO (aa 1)) (aB ya hr gO (aj (aa 0) (aj aA (aj (aF cJ (aa 1) aA) ak))))) ak)) (fun _=>rfl))))))
  (az (aD bL))
  aY)
  (az (aD (gK (cR hr.units) (bV (T := "list") cU yd (aj (aa 1) ak)) (Fy rfl yf ye (aj (aa 1) ak))))))⟩
noncomputable def dR:=(kW v0).1
abbrev lz:Stmt:=top 46
theorem pH:Sc ["_law_way", "_law_one", "_law_other", "e", "_law_some"] ["_law_way", "_law_one", "_law_other"] lz:=bU
@[simp] noncomputable def kO:Qd 6 ["_law_way", "_law_one", "_law_other", "e", "_law_some"] "_law_heard" lz fun P w K m o Z=>∀{F0 C_NoLot C_Unlike},DefD P w K m o 6 "is_joining" ["one", "other", "thing"] v0->DefD P w K m o 6 "is_paper" ["one", "other", "thing"] v1->DefD P w K m o 6 "paper_of" ["one", "other"] v2->XTab K m ww F0->Gc m "NoLot" C_NoLot->Gc m "Unlike" C_Unlike->Gc m "FadeError" F0->Nn m "isinstance"->Z:=
 ⟨_,fun ya yb yc yd ye yf yg yh hr=>have nd:=pH.nd;(aq (Ji 5 (fh:=fun c=>(mK (fun δ=>(fun δ=>(fun δ=>(fun δ=>(fun δ=>(bY 3) δ>>=fun x=>(fun δ=>(fun _=>pure (D.cls "NoLot")) δ>>=fun x=>(fun _=>pure []) δ>>=fun xs=>pure (x::xs)) δ>>=fun xs=>pure (x::xs)) δ>>=fun l=>rd (Aw ww c l)) δ>>=fun x=>(fun δ=>(fun δ=>(fun δ=>(bY 3) δ>>=fun x=>(fun δ=>(fun _=>pure (D.cls "Unlike")) δ>>=fun x=>(fun _=>pure []) δ>>=fun xs=>pure (x::xs)) δ>>=fun xs=>pure (x::xs)) δ>>=fun l=>rd (Aw ww c l)) δ>>=fun x=>(fun _=>pure []) δ>>=fun xs=>pure (x::xs)) δ>>=fun xs=>pure (x::xs)) δ>>=dN) δ>>=fun d=>pure (Fl.nx (δ.set 4 (some d))))
  (fun δ=>(fun δ=>(fun δ=>(fun δ=>(fun δ=>(bY 4) δ>>=fun x=>rd (fun M=>aU x M)>>=fun _=>(fun δ=>(fun _=>pure (D.bl true)) δ>>=fun x=>(fun _=>pure []) δ>>=fun xs=>pure (x::xs)) δ>>=fun xs=>xg x xs) δ>>=fun x=>(fun _=>pure (D.int 1)) δ>>=fun y=>rd (dF x y)) δ>>=fW) δ>>=fun k=>if k then (fun δ=>(fun δ=>(fun δ=>(fun _=>pure (D.str "lot")) δ>>=fun x=>(fun δ=>(fun _=>pure (D.str "unlike")) δ>>=fun x=>(fun _=>pure []) δ>>=fun xs=>pure (x::xs)) δ>>=fun xs=>pure (x::xs)) δ>>=dN) δ>>=fun x=>(fun δ=>(bY 4) δ>>=fun x=>rd (fun M=>aU x M)>>=fun _=>(fun δ=>(fun _=>pure (D.bl true)) δ>>=fun x=>(fun _=>pure []) δ>>=fun xs=>pure (x::xs)) δ>>=fun xs=>xM x xs) δ>>=fun y=>rd (cF x y)) δ else (fun _=>pure (D.str "other")) δ) δ>>=fun d=>pure (Fl.rt d)))) (fy:=fun y c=>(mK (fun δ=>(fun δ=>(fun δ=>(fun δ=>(fun δ=>(bY 3) δ>>=fun x=>(fun δ=>(fun _=>pure (D.cls "NoLot")) δ>>=fun x=>(fun _=>pure []) δ>>=fun xs=>pure (x::xs)) δ>>=fun xs=>pure (x::xs)) δ>>=fun l=>rd (uJ ww y c l)) δ>>=fun x=>(fun δ=>(fun δ=>(fun δ=>(bY 3) δ>>=fun x=>(fun δ=>(fun _=>pure (D.cls "Unlike")) δ>>=fun x=>(fun _=>pure []) δ>>=fun xs=>pure (x::xs)) δ>>=fun xs=>pure (x::xs)) δ>>=fun l=>rd (uJ ww y c l)) δ>>=fun x=>(fun _=>pure []) δ>>=fun xs=>pure (x::xs)) δ>>=fun xs=>pure (x::xs)) δ>>=dN) δ>>=fun d=>pure (Fl.nx (δ.set 4 (some d))))
  (fun δ=>(fun δ=>(fun δ=>(fun δ=>(fun δ=>(bY 4) δ>>=fun x=>rd (fun M=>aU x M)>>=fun _=>(fun δ=>(fun _=>pure (D.bl true)) δ>>=fun x=>(fun _=>pure []) δ>>=fun xs=>pure (x::xs)) δ>>=fun xs=>xg x xs) δ>>=fun x=>(fun _=>pure (D.int 1)) δ>>=fun y=>rd (dF x y)) δ>>=fW) δ>>=fun k=>if k then (fun δ=>(fun δ=>(fun δ=>(fun _=>pure (D.str "lot")) δ>>=fun x=>(fun δ=>(fun _=>pure (D.str "unlike")) δ>>=fun x=>(fun _=>pure []) δ>>=fun xs=>pure (x::xs)) δ>>=fun xs=>pure (x::xs)) δ>>=dN) δ>>=fun x=>(fun δ=>(bY 4) δ>>=fun x=>rd (fun M=>aU x M)>>=fun _=>(fun δ=>(fun _=>pure (D.bl true)) δ>>=fun x=>(fun _=>pure []) δ>>=fun xs=>pure (x::xs)) δ>>=fun xs=>xM x xs) δ>>=fun y=>rd (cF x y)) δ else (fun _=>pure (D.str "other")) δ) δ>>=fun d=>pure (Fl.rt d)))) (i:=3) yd rfl rfl rfl rfl rfl nd rfl rfl yg (fun pins_ Eh_=>(az (bA (bz (cR hr.units) (aa 0) aA)
  (az (eN (aB ya hr (Be rfl rfl rfl) (aj (aa 1) (aj (aa 2) (aj pR ak))))))
  (az (bA (bz (cR hr.units) (aa 0) aA)
  (az (eN (aB yb hr (Be rfl rfl rfl) (aj (aa 1) (aj (aa 2) (aj pR ak))))))
  (az (eN (aB yc hr (Be rfl rfl rfl) (aj (aa 1) (aj (aa 2) ak))))))))))
  (fun c C y oe hc_ hm_ ho_ xa_=>(aq (aW (i:=4) nd rfl (Or.inl rfl) (bM (aj (aJ (vJ yd hc_ hm_ ho_ xa_ (List.mem_append_right _ List.mem_cons_self)) yh (aj (aa 3) (aj (Cz ye) ak))) (aj (aJ (vJ yd hc_ hm_ ho_ xa_ (List.mem_append_right _ List.mem_cons_self)) yh (aj (aa 3) (aj (Cz yf) ak))) ak))))
  (az (aD (Lh (bz (cR hr.units) (tR PySem.F.plainAttrs_list PySem.F.slot_list_count PySem.F.type_list_count Dn (aa 4) (aj bL ak)) aA) (aM aQ (bM (aj eE (aj eE ak))) (tR PySem.F.plainAttrs_list PySem.F.slot_list_index PySem.F.type_list_index Do (aa 4) (aj bL ak))) eE))))) (fun y c M r h=>by rw[←h];simp[mK,bY,Nk,Nj,Le,G8]))
  (az (aD eE)))⟩
noncomputable def jW:=(kO v0 v1 v2).1
abbrev gY:Stmt:=top 47
theorem sU:Sc ["_law_one", "_law_other", "_law_thing"] ["_law_one", "_law_other", "_law_thing"] gY:=bU
@[simp] noncomputable def lV:Qe 3 ["_law_one", "_law_other", "_law_thing"] "_law_is_paper" gY fun D n Z=>D 3 "_law_is_places" ["_law_wide", "_law_thing"] v0->D 3 "_law_is_joining" ["_law_one", "_law_other", "_law_thing"] v1->D 3 "_law_excess" ["_law_one", "_law_other", "_law_places"] v2->D 1 "_law_parted" ["_law_joining_here"] v3->n "isinstance"->n "len"->n "tuple"->Z:=
 ⟨_,fun ya yb yc yd ye yf yg hr=>(aq (bA (DW.dt (fK (bQ (bw (aJ bK ye (aj (aa 2) (aj (eX (T := "tuple") yg) ak))) (fun _=>rfl))) (fK (bz (cz hr.units) (aJ call_lenD yf (aj (aa 2) ak)) aA) (eF (bQ (bw (aB ya hr aH (aj (aJ call_lenD yf (aj (aa 0) ak)) (aj (aM aQ (aa 2) aA) ak))) (fun _=>rfl)))))))
  (az (aD bL))
  aY)
  (aq (bA (bQ (bw (aB yb hr aH (aj (aa 0) (aj (aa 1) (aj (aM aQ (aa 2) aA) ak)))) (fun _=>rfl)))
  (az (aD bL))
  aY)
  (az (aD (gK (cR hr.units) (aB yc hr aH (aj (aa 0) (aj (aa 1) (aj (aM aQ (aa 2) aA) ak)))) (aB yd hr aH (aj (aM aQ (aa 2) aA) ak)))))))⟩
noncomputable def cD:=(lV v0 v1 v2 v3).1
abbrev jt:Stmt:=top 48
theorem nG:Sc ["_law_pot_here", "_law_joining_here", "_law_wide", "_law_x", "_law_y", "_law_u", "_law_v", "_law_rows", "_law_part", "_law_a", "_law_b", "_law_more", "_law_found"] ["_law_pot_here", "_law_joining_here"] jt:=bU
@[simp] noncomputable def jo:Qe 10 ["_law_pot_here", "_law_joining_here", "_law_wide", "_law_x", "_law_y", "_law_u", "_law_v", "_law_rows", "_law_part", "_law_a", "_law_b", "_law_more", "_law_found"] "_law_spoilt" jt fun D n Z=>D 1 "_law_take" ["_law_pot_here", "_law_far"] v0->D 2 "_law_odd" ["_law_pot_here"] v1->D 10 "_law_bent" ["_law_pot_here", "_law_thing"] v2->n "len"->n "list"->n "min"->n "range"->n "tuple"->Z:=
 ⟨_,fun ya yb yc yd ye yf yg yh hr=>have nd:=nG.nd;(aq (aW (i:=2) nd rfl (Or.inr rfl) (aJ call_lenD yd (aj (aa 1) ak)))
  (aq (b8 (cW "_law_turn" [0,2] ["_law_pot_here", "_law_wide"] (bu rfl yg (aj aA ak)) (aB ya hr gO (aj (aa 1) (aj (aa 2) ak)))) (Jh (n:=4) rfl (aN (aG (i:=3) nd rfl (Or.inl rfl)) (aN (aG (i:=4) nd rfl (Or.inl rfl)) (aN (aG (i:=5) nd rfl (Or.inl rfl)) (aN (aG (i:=6) nd rfl (Or.inl rfl)) cj))))))
  (aq (km (i:=7) (own:=["_law_row"]) (js:=[]) (fr:=[]) .val nd rfl (Or.inl rfl) rfl (by trivial) (bO (aa 1)) (fun _ _ _ _ _ _=>(aG (i:=0) (pB ["_law_row"]) rfl (Or.inl rfl))) (fun _ _ _ _ _ _=>eO) (fun _ _ _ _ _ _=>(bV (T := "list") jH ye (aj (aa 0) ak))))
  (aq (aW (i:=8) nd rfl (Or.inl rfl) (aJ (Al rfl) yf (aj (aM aQ (aM aQ (aa 7) (aa 3)) (aa 4)) (aj (aM aQ (aM aQ (aa 7) (aa 5)) (aa 6)) (aj (aF aV aA (aB ya hr aH (aj (aa 0) (aj aA ak)))) ak)))))
  (aq (cY 0 PassesOwn.leaving rfl (fj (bM (aj (bj (aj (aa 3) (aj (aa 4) (aj (aF cJ aA (aa 8)) ak)))) (aj (bj (aj (aa 5) (aj (aa 6) (aj (aF cJ aA (aa 8)) ak)))) (aj (bj (aj (aa 3) (aj (aa 6) (aj (aa 8) ak)))) (aj (bj (aj (aa 5) (aj (aa 4) (aj (aa 8) ak)))) ak)))))) (cX (n:=3) rfl (aN (aG (i:=9) nd rfl (Or.inl rfl)) (aN (aG (i:=10) nd rfl (Or.inl rfl)) (aN (aG (i:=11) nd rfl (Or.inl rfl)) cj))))
  (az (b8 (aF aV (aM aQ (aM aQ (aa 7) (aa 9)) (aa 10)) (aa 11)) (kj (aM aQ (aa 7) (aa 9)) (aa 10) lZ))))
  (aq (aW (i:=12) nd rfl (Or.inl rfl) (qF (aj (bV (T := "tuple") aX yh (aj (cW "_law_row" [] [] (fj (aa 7)) (bV (T := "tuple") aX yh (aj (aa 0) ak))) ak)) (aj (CJ (aa 1)) (aj (bV (T := "list") cU ye (aj (aa 1) ak)) (aj (dq (aa 1) fJ (dD (pQ aA))) (aj (aF aV (aa 1) (dq (aa 1) fJ (dD aA))) ak)))))))
  (aq (eN (tR PySem.F.plainAttrs_list PySem.F.slot_list_append PySem.F.type_list_append zM (aa 12) (aj (bV (T := "tuple") aX yh (aj (iC (own:=["_law_place"]) (js:=[1]) (fr:=["_law_joining_here"]) .val rfl (by trivial) (bu rfl yg (aj (aa 2) ak)) (fun _ _ _ _ _ _=>(aG (i:=0) (pB ["_law_place", "_law_joining_here"]) rfl (Or.inr rfl))) (fun _ _ _ _ _ _=>eO) (fun _ _ _ _ _ _=>(bV (T := "tuple") aX yh (aj (cW "_law_row" [0] ["_law_place"] (bO (aa 1)) (aM aQ (aa 0) (aa 1))) ak)))) ak)) ak)))
  (az (aD (aF aV (aa 12) (bM (aj (aB yc hr aH (aj (aa 0) (aj (aa 1) ak))) (aj (bV (T := "tuple") aX yh (aj (cW "_law_row" [] [] (bO (aa 1)) (bV (T := "list") cU ye (aj (aa 0) ak))) ak)) (aj (aB yb hr aH (aj (aa 0) ak)) ak))))))))))))))⟩
noncomputable def pA:=(jo v0 v1 v2).1
abbrev Br:Stmt:=top 49
theorem Eg:Sc ["_law_script", "_law_k", "_law_pot_here", "_law_wide", "_law_one", "_law_other", "_law_paper", "_law_joinings", "_law_thing", "_law_kept", "_law_places", "_law_due", "_law_things"] ["_law_script"] Br:=bU
@[simp] noncomputable def Bj:Qe 11 ["_law_script", "_law_k", "_law_pot_here", "_law_wide", "_law_one", "_law_other", "_law_paper", "_law_joinings", "_law_thing", "_law_kept", "_law_places", "_law_due", "_law_things"] "law" Br fun D n Z=>D 1 "_law_cell_at" ["_law_script", "_law_k"] v0->D 1 "_law_pot" ["_law_cell"] v1->D 1 "_law_take" ["_law_pot_here", "_law_far"] v2->D 2 "_law_lot" ["_law_pot_here", "_law_wide"] v3->D 6 "paper_of" ["one", "other"] v4->D 3 "_law_joining" ["_law_pot_here", "_law_one", "_law_other"] v5->D 11 "_law_spoilt" ["_law_pot_here", "_law_joining_here"] v6->D 6 "is_joining" ["one", "other", "thing"] v7->D 3 "_law_is_joining" ["_law_one", "_law_other", "_law_thing"] v8->D 1 "_law_sets" ["_law_wide"] v9->D 2 "_law_odd" ["_law_pot_here"] v10->D 4 "_law_is_paper" ["_law_one", "_law_other", "_law_thing"] v11->D 6 "is_paper" ["one", "other", "thing"] v12->D 10 "_law_bent" ["_law_pot_here", "_law_thing"] v13->D 7 "_law_heard" ["_law_way", "_law_one", "_law_other"] v14->n "len"->n "list"->n "max"->n "min"->n "range"->n "repr"->Z:=
 ⟨_,fun ya yb yc yd ye yf yg yh yi yj yk yl ym yn yo yp yq yr ys yt yu hr=>have nd:=Eg.nd;(aq (cY 0 PassesOwn.leaving rfl (bu rfl yt (aj (aJ (Ak rfl) yr (aj aA (aj (aJ (jJ rfl) ys (aj (aJ call_lenD yp (aj (aa 0) ak)) (aj aA ak))) ak))) ak)) (aG (i:=1) nd rfl (Or.inl rfl))
  (aq (aW (i:=2) nd rfl (Or.inl rfl) (aB yb hr aH (aj (aB ya hr aH (aj (aa 0) (aj (aa 1) ak))) ak)))
  (aq (aW (i:=3) nd rfl (Or.inr rfl) (aF aV aA (aB yc hr aH (aj (aa 2) (aj aA ak)))))
  (aq (b8 (bj (aj (aB yd hr aH (aj (aa 2) (aj (aa 3) ak))) (aj (aB yd hr aH (aj (aa 2) (aj (aa 3) ak))) ak))) (cX (n:=2) rfl (aN (aG (i:=4) nd rfl (Or.inr rfl)) (aN (aG (i:=5) nd rfl (Or.inl rfl)) cj))))
  (aq (aW (i:=6) nd rfl (Or.inl rfl) (aB ye hr aH (aj (aa 4) (aj (aa 5) ak))))
  (aq (aW (i:=7) nd rfl (Or.inl rfl) (bM (aj (aM aQ (aa 6) aA) (aj (aB yf hr aH (aj (aa 2) (aj (aa 4) (aj (aa 5) ak)))) (aj (aB yf hr aH (aj (aa 2) (aj (aa 4) (aj (aa 5) ak)))) ak)))))
  (aq (cY 0 PassesOwn.leaving rfl (fj (aF aV (aF aV (aF aV (aa 7) (aB yg hr aH (aj (aa 2) (aj (aM aQ (aa 6) aA) ak)))) (aB yg hr aH (aj (aa 2) (aj (aM aQ (aa 7) aA) ak)))) (bM (aj pR ak)))) (aG (i:=8) nd rfl (Or.inl rfl))
  (aq (aW (i:=9) nd rfl (Or.inl rfl) (aJ (cV hr.gd hr.units) yu (aj (aa 8) ak)))
  (aq (bA (bz (cz hr.units) (aJ (cV hr.gd hr.units) yu (aj (aB yh hr aH (aj (aa 4) (aj (aa 5) (aj (aa 8) ak)))) ak)) (aJ (cV hr.gd hr.units) yu (aj (aB yi hr aH (aj (aa 4) (aj (aa 5) (aj (aa 8) ak)))) ak)))
  (az (aD bL))
  aY)
  (az (cY 0 PassesOwn.leaving rfl (fj (aF aV (aB yj hr aH (aj (aa 3) ak)) (bM (aj (aM aQ (aa 6) aA) (aj (bV (T := "list") cU yq (aj (aM aQ (aa 6) aA) ak)) (aj (CJ (aM aQ (aa 6) aA)) (aj (bj (aj (aa 3) ak)) (aj (aB yk hr aH (aj (aa 2) ak)) ak)))))))) (aG (i:=10) nd rfl (Or.inl rfl))
  (aq (aW (i:=11) nd rfl (Or.inl rfl) (aB yl hr aH (aj (aa 4) (aj (aa 5) (aj (bj (aj (aa 10) (aj (aa 8) ak))) ak)))))
  (az (bA (DW.dt (fK (bz (cz hr.units) (aJ (cV hr.gd hr.units) yu (aj (aB ym hr aH (aj (aa 4) (aj (aa 5) (aj (bj (aj (aa 10) (aj (aa 8) ak))) ak)))) ak)) (aJ (cV hr.gd hr.units) yu (aj (aa 11) ak))) (eF (bz (cz hr.units) (aJ (cV hr.gd hr.units) yu (aj (aa 8) ak)) (aa 9)))))
  (az (aD bL))
  aY))))))))
  (aq (aW (i:=12) nd rfl (Or.inl rfl) (bM (aj pR (aj (aM aQ (aa 6) aA) (aj (bV (T := "list") cU yq (aj (aa 6) ak)) (aj (aF aV (aa 6) (bj (aj aA ak))) (aj (bj (aj (aM aQ (aa 6) aA) (aj (aM aQ (aa 6) aA) ak))) (aj (aB yk hr aH (aj (aa 2) ak)) (aj (aB yn hr aH (aj (aa 2) (aj (aa 6) ak))) ak)))))))))
  (aq (cY 0 PassesOwn.leaving rfl (fj (aa 12)) (aG (i:=8) nd rfl (Or.inl rfl))
  (az (bA (bz (cz hr.units) (aJ (cV hr.gd hr.units) yu (aj (aB ym hr aH (aj (aa 4) (aj (aa 5) (aj (aa 8) ak)))) ak)) (aJ (cV hr.gd hr.units) yu (aj (aB yl hr aH (aj (aa 4) (aj (aa 5) (aj (aa 8) ak)))) ak)))
  (az (aD bL))
  aY)))
  (aq (bA (bz (cz hr.units) (cW "_law_way" [4] ["_law_one"] (bu rfl yt (aj aA ak)) (aB yo hr gO (aj (aa 0) (aj (aa 1) (aj (aF aV (aa 1) (bj (aj aA ak))) ak))))) (aF zP (bM (aj eE ak)) aA))
  (az (aD bL))
  aY)
  (az (bA (bz (cz hr.units) (cW "_law_way" [4,3] ["_law_one", "_law_wide"] (bu rfl yt (aj aA ak)) (aB yo hr gO (aj (aa 0) (aj (aF aV (aa 1) (bj (aj aA ak))) (aj (aF Ih (bj (aj aA ak)) (aa 2)) ak))))) (aF zP (bM (aj eE ak)) aA))
  (az (aD bL))
  aY))))))))))))
  (az (aD bL)))⟩
noncomputable def G7:=(Bj v0 v1 v2 v3 v4 v5 v6 v7 v8 v9 v10 v11 v12 v13 v14).1
end
end K
namespace K
open PySem L2 L3 N10
noncomputable def wL:List D->DM D
 |[.int a,.int b]=>if 0≤a∧0≤b then pure (nD (Nat.gcd a.toNat b.toNat)) else stuck
 |_=>stuck
theorem Js(a b:Nat):wL [nD a,nD b]=pure (nD (Nat.gcd a b)):=by
 simp[wL,nD]
theorem zF {c:ao->DM Bool}{f:ao->DM Fl} (h1:∀ a b:Nat,c [some (nD a),some (nD b)]=pure (b != 0)) (h2:∀ a b:Nat,0<b->f [some (nD a),some (nD b)]=pure (.nx [some (nD b),some (nD (a % b))])) :
  ∀b a:Nat,∃n,ji c f n [some (nD a),some (nD b)]=pure (.nx [some (nD (Nat.gcd a b)),some (nD 0)]):=by
 intro b
 induction b using Nat.strongRecOn with
 | ind b ih=>
   intro a
   rcases Nat.eq_zero_or_pos b with rfl | hb
   ·exact⟨1,by simp[ji,h1]⟩
   ·obtain⟨n,hn⟩:=ih (a%b) (Nat.mod_lt _ hb) b
    refine⟨n+1,?_⟩
    have hb':(b != 0)=true:=by simp;lia
    simp only[ji,h1,au,hb',if_true,h2 a b hb,hn]
    rw[Nat.gcd_comm a b,Nat.gcd_rec b a,Nat.gcd_comm]
theorem Lk:∀ ds M r,wL ds M=some r->∃ n,aL 2 2 (cT n) ds M=some r:=by
 intro ds M r h
 unfold wL at h
 split at h
 ·rename_i a b
  split at h
  ·rename_i hab
   obtain⟨x,rfl⟩:∃x:Nat,a=x:=⟨a.toNat,by lia⟩
   obtain⟨y,rfl⟩:∃y:Nat,b=y:=⟨b.toNat,by lia⟩
   have h1:∀a b:Nat,(fun δ=>(bY 1) δ>>=fun x=>rd (s8 x)) [some (nD a),some (nD b)]=(pure (b != 0):DM Bool):=fun a b=>by
    simp
    refine bH fun M=>?_
    show some ((b:Int) != 0)=_
    congr 1
    rw[Bool.eq_iff_iff];simp
   have h2:∀a b:Nat,0<b->(sJ 0 1 (fun δ=>(bY 1) δ>>=fun x=>(fun δ=>(fun δ=>(bY 0) δ>>=fun x=>(bY 1) δ>>=fun y=>rd (kJ x y)) δ>>=fun x=>(fun _=>pure []) δ>>=fun xs=>pure (x::xs)) δ>>=fun xs=>pure (x::xs))) [some (nD a),some (nD b)]=pure (.nx [some (nD b),some (nD (a%b))]):=fun a b hb=>by
    have:=DY (a:=a) hb
    simp[nD] at this ⊢
    simp[this]
   obtain⟨n,hn⟩:=zF (c:=(fun δ=>(bY 1) δ>>=fun x=>rd (s8 x))) (f:=(sJ 0 1 (fun δ=>(bY 1) δ>>=fun x=>(fun δ=>(fun δ=>(bY 0) δ>>=fun x=>(bY 1) δ>>=fun y=>rd (kJ x y)) δ>>=fun x=>(fun _=>pure []) δ>>=fun xs=>pure (x::xs)) δ>>=fun xs=>pure (x::xs)))) h1 h2 y x
   refine⟨n,?_⟩
   rw[←h]
   have:aL 2 2 (cT n) [.int x,.int y]=pure (nD (Nat.gcd x y)):=by
    unfold cT fB
    have e:dI 2 [D.int x,D.int y]=[some (nD x),some (nD y)]:=rfl
    simp only[DN,e,wH,hn]
    simp
   rw[this];simp
  ·cases h
 ·cases h
theorem bR:(∀(α:Type) (a:α) (l:List α),(a::l)[0]?=some a)∧(∀(α:Type) (a:α) (l:List α) (i:Nat),(a::l)[i+1]?=l[i]?)∧(∀(α:Type) (x:Option α),(some x).join=x)∧(∀(α:Type) (a:α),(opt (some a):DM α)=pure a)∧∀(α β:Type) (a:α) (f:α->DM β),((pure a:DM α)>>=f)=f a:=⟨fun _ _ _=>rfl,fun _ _ _ _=>rfl,fun _ _=>rfl,fun _ _=>gU _,fun _ _ _ _=>au _ _⟩
theorem vV:(∀(α:Type) (a b:α) (l:List α) (i:Nat),(a::l).set (i+1) b=a::l.set i b)∧∀(α:Type) (a b:α) (l:List α),(a::l).set 0 b=b::l:=⟨fun _ _ _ _ _=>rfl,fun _ _ _ _=>rfl⟩
noncomputable def o7:=aL 1 1 jG
noncomputable def o6:=aL 2 2 (dZ o7)
noncomputable def zm:=aL 1 1 (wY o6)
noncomputable def wQ:=aL 1 1 (gH zm)
theorem JB(n:Nat):o7 [nD n]=pure (.bl true):=by
 have a:(rd (kI [nD n,.ty "int"]):DM D)=pure (.bl true):=cG (t := "int") (fun _=>rfl) (by decide)
 have b:(rd (kI [nD n,.ty "bool"]):DM D)=pure (.bl false):=cG (t := "int") (fun _=>rfl) (by decide)
 simp[o7,jG,a,b]
theorem Jc {l:List Nat} (hl:l.length≤1000):o6 [nT l,.int (l.length:Int)]=pure (.bl true):=by
 have a:(rd (kI [nT l,.ty "tuple"]):DM D)=pure (.bl true):=cG (t := "tuple") (fun _=>rfl) (by decide)
 have ln:(rd (dW [nT l]):DM D)=pure (.int (l.length:Int)):=by simp[nT]
 simp[o6,dZ,a,ln,aP,bc]
 show (dj (aZ _ _ _ (l.map nD) _ _)>>=_)=_
 rw[Lf (fun _=>true) (fun _=>.bl true) (by simpa using Nat.le_trans hl (by decide)) (fun _ _=>rfl) (fun d hd _=>?_) (k':=fun l=>rd (pM [.lst l])) (fun _=>rfl)]
 ·have:((l.map nD).filter (fun _=>true)).map (fun _=>D.bl true)=(l.map fun _=>true).map D.bl:=by
   rw[List.filter_eq_self.mpr (fun _ _=>rfl),List.map_map,List.map_map];rfl
  have q:(l.map fun _=>true).all id=true:=by rw[List.all_eq_true];intro x hx;obtain⟨_,_,rfl⟩:=List.mem_map.mp hx;rfl
  rw[this,yz,q]
 ·obtain⟨n,_,rfl⟩:=List.mem_map.mp hd
  have:=JB n
  unfold nD at this ⊢
  simp[this]
noncomputable def eZ(l:List Nat):Prop:=1≤l.length∧l.length≤25∧0<l.sum
theorem CV{l:List Nat}(h1:1≤l.length)(h2:l.length≤25):zm [nT l]=pure (.bl (decide (0<l.sum))):=by
 have a:(rd (kI [nT l,.ty "tuple"]):DM D)=pure (.bl true):=cG (t := "tuple") (fun _=>rfl) (by decide)
 have ln:(rd (dW [nT l]):DM D)=pure (.int (l.length:Int)):=by simp[nT]
 have e1:decide ((1:Int)≤(l.length:Int))=true:=decide_eq_true (by lia)
 have e2:decide ((l.length:Int)≤25)=true:=decide_eq_true (by lia)
 simp[zm,wY,a,ln,e1,e2,Jc (l:=l) (by lia),zr]
theorem qm{l:List Nat}(h:eZ l):wQ [nT l]=pure .non:=by
 simp[wQ,gH,CV h.1 h.2.1,h.2.2]
theorem qP:∀ {l:List Nat}{n:Nat},n∈l->n≤l.sum
 |a::l,n,h=>by
   rw[List.sum_cons]
   rcases List.mem_cons.mp h with rfl | h
   ·lia
   ·have:=qP h;lia
noncomputable def wK:List D->DM D
 |[.int a,.int b]=>if 0≤a∧0≤b then pure (nD (Nat.gcd a.toNat b.toNat)) else stuck
 |_=>stuck
theorem Jr(a b:Nat):wK [nD a,nD b]=pure (nD (Nat.gcd a b)):=by
 simp[wK,nD]
theorem Kq(a:Nat):(rd (uB [nD a]):DM D)=pure (nD a):=by unfold nD;rw[Mh,if_neg (by lia)]
theorem Lj:∀ ds M r,wK ds M=some r->∃ n,aL 2 2 (gG n) ds M=some r:=by
 intro ds M r h
 unfold wK at h
 split at h
 ·rename_i a b
  split at h
  ·rename_i hab
   obtain⟨x,rfl⟩:∃x:Nat,a=x:=⟨a.toNat,by lia⟩
   obtain⟨y,rfl⟩:∃y:Nat,b=y:=⟨b.toNat,by lia⟩
   have h1:∀a b:Nat,(fun δ=>(fun δ=>(bY 1) δ>>=fun x=>(fun _=>pure (D.int 0)) δ>>=fun y=>rd (du x y)) δ>>=fW) [some (nD a),some (nD b)]=(pure (b != 0):DM Bool):=fun a b=>by
    simp[nD]
    congr 1
   have h2:∀a b:Nat,0<b->(sJ 0 1 (fun δ=>(bY 1) δ>>=fun x=>(fun δ=>(fun δ=>(bY 0) δ>>=fun x=>(bY 1) δ>>=fun y=>rd (kJ x y)) δ>>=fun x=>(fun _=>pure []) δ>>=fun xs=>pure (x::xs)) δ>>=fun xs=>pure (x::xs))) [some (nD a),some (nD b)]=pure (.nx [some (nD b),some (nD (a%b))]):=fun a b hb=>by
    have:=DY (a:=a) hb
    simp[nD] at this ⊢
    simp[this]
   obtain⟨n,hn⟩:=zF (c:=(fun δ=>(fun δ=>(bY 1) δ>>=fun x=>(fun _=>pure (D.int 0)) δ>>=fun y=>rd (du x y)) δ>>=fW)) (f:=(sJ 0 1 (fun δ=>(bY 1) δ>>=fun x=>(fun δ=>(fun δ=>(bY 0) δ>>=fun x=>(bY 1) δ>>=fun y=>rd (kJ x y)) δ>>=fun x=>(fun _=>pure []) δ>>=fun xs=>pure (x::xs)) δ>>=fun xs=>pure (x::xs)))) h1 h2 y x
   refine⟨n,?_⟩
   rw[←h]
   have:aL 2 2 (gG n) [nD x,nD y]=pure (nD (Nat.gcd x y)):=by
    unfold gG oh
    have e:dI 2 [nD x,nD y]=[some (nD x),some (nD y)]:=rfl
    have q:(sJ 0 1 (fun δ=>(fun δ=>(fun δ=>(bY 0) δ>>=fun x=>(fun _=>pure []) δ>>=fun xs=>pure (x::xs)) δ>>=fun l=>rd (uB l)) δ>>=fun x=>(fun δ=>(fun δ=>(fun δ=>(bY 1) δ>>=fun x=>(fun _=>pure []) δ>>=fun xs=>pure (x::xs)) δ>>=fun l=>rd (uB l)) δ>>=fun x=>(fun _=>pure []) δ>>=fun xs=>pure (x::xs)) δ>>=fun xs=>pure (x::xs))) [some (nD x),some (nD y)]=(pure (.nx [some (nD x),some (nD y)]):DM Fl):=by
     simp[Kq]
    rw[DN,e]
    show (if [nD x,nD y].length=2 then mK _ _ _>>=_ else stuck)=_
    rw[wH]
    refine (if_pos rfl).trans ?_
    refine (congrArg (fun m=>(m>>=_)>>=_) q).trans ?_
    rw[au]
    show (mK _ _ _>>=_)=_
    rw[wH]
    refine (congrArg (fun m=>(m>>=_)>>=_) hn).trans ?_
    simp
   have this':aL 2 2 (gG n) [.int x,.int y]=pure (nD (Nat.gcd x y)):=this
   rw[this'];simp
  ·cases h
 ·cases h
noncomputable def jR:=aL 2 3 rE
noncomputable def zq:=aL 1 4 nR
noncomputable def zj:=aL 2 2 iB
noncomputable def BV:=aL 2 4 (tL jR)
theorem cM{p:Nat}{M:Mo}{far:Int}(h:cC p M)(h0:0<far)(h1:far<2^64):Rn (jR [.ref p,.int far]) M fun d M'=>∃t:Nat,(t:Int)<far∧d=nD t∧cC p M'∧Sb p M M':=by
 obtain⟨v,e⟩:=h
 have hp:=(List.getElem?_eq_some_iff.mp e).1
 have ix:cF (.ref p) (.int 0) M=some (nD v):=fX (i:=0) e rfl
 have m1:(rd (kJ (nD v) (.int far)):DM D)=pure (.int ((v:Int)%far)):=ut h0
 have m2:(rd (iV (nD v) (.int far)):DM D)=pure (.int ((v:Int) / far)):=yD (uF h0 (Nat.lt_of_lt_of_le (by lia:far.natAbs<2^64) (by decide +kernel)))
 have st:iR (.ref p) (.int 0) (.int ((v:Int) / far)) M=some (.ok (),M.set p (.lst ([nD v].set 0 (.int ((v:Int) / far))))):=fM (i:=0) e (by simp)
 simp[jR,rE]
 refine Rn.bindRd _ ix ?_
 rw[m1,au]
 refine Rn.bindRd _ ix ?_
 rw[m2,au]
 refine Rn.run st ?_
 have a1:=Int.emod_nonneg (v:Int) (Int.ne_of_gt h0)
 have a2:=Int.emod_lt_of_pos (v:Int) h0
 have a3:=Int.ediv_nonneg (a:=(v:Int)) (b:=far) (by lia) (by lia)
 refine Rn.pure ⟨((v:Int)%far).toNat,by lia,by unfold nD;rw[Int.toNat_of_nonneg a1],⟨((v:Int) / far).toNat,?_⟩,Sb.set⟩
 rw[List.getElem?_set_self hp]
 unfold nD
 simp
 lia
theorem Je (cs:List Int) (k:Nat):∃ c:Int,zj [.scr cs,nD k]=pure (.int c):=by
 by_cases h:k<cs.length
 ·have e:decide ((k:Int)<(cs.length:Int))=true:=decide_eq_true (by lia)
  have ix:(rd (cF (.scr cs) (.int (k:Int))):DM D)=pure (.int cs[k]):=bH fun M=>by
   show (atI cs (k:Int)).map _=_
   rw[mR (List.getElem?_eq_getElem h)];rfl
  refine⟨cs[k],?_⟩
  simp[zj,iB,nD,e,ix,h]
 ·have e:decide ((k:Int)<(cs.length:Int))=false:=decide_eq_false (by lia)
  refine⟨0,?_⟩
  simp[zj,iB,nD,e,h]
theorem zU {c:D}{f:ao->DM Fl} (h:∀ (n j:Nat) (z:Option D),j<64->∃ n' m':Nat,f [some c,some (nD n),some (nD j),z]=pure (.nx [some c,some (nD n'),some (nD j),some (nD m')])):∀ (l:List Nat),(∀ j∈l,j<64)->∀ (n:Nat) y z,∃ (n':Nat) (y' z':Option D),forL (gN 2) f (l.map nD) [some c,some (nD n),y,z]=pure (.nx [some c,some (nD n'),y',z'])
 |[],_,n,y,z=>⟨n,y,z,rfl⟩
 |j::l,hl,n,y,z=>by
   obtain⟨n1,m1,e1⟩:=h n j z (hl j (by simp))
   obtain⟨n',y',z',e2⟩:=zU h l (fun k hk=>hl k (by simp[hk])) n1 (some (nD j)) (some (nD m1))
   refine⟨n',y',z',?_⟩
   simp[forL,e1,e2]
theorem GC{c:D}{f:ao->DM Fl}{k:Fl->DM D}{l:List Nat}(hl:∀j∈l,j<64)(n:Nat)(y z:Option D)(h:∀(n j:Nat) (z:Option D),j<64->∃n' m':Nat,f [some c,some (nD n),some (nD j),z]=pure (.nx [some c,some (nD n'),some (nD j),some (nD m')]))(hk:∀(n':Nat) y' z',∃v:Nat,k (.nx [some c,some (nD n'),y',z'])=dH [nD v]):∃v:Nat,(forL (gN 2) f (l.map nD) [some c,some (nD n),y,z]>>=k)=dH [nD v]:=by
 obtain⟨n',y',z',e⟩:=zU h l hl n y z
 obtain⟨v,q⟩:=hk n' y' z'
 exact⟨v,by rw[e,au,q]⟩
theorem Kl(c:Int):∃v:Nat,zq [.int c]=dH [nD v]:=by
 have pw:(rd (uT (.int 10) (.int 18)):DM D)=pure (.int 1000000000000000000):=by rw[wG (by decide)];rfl
 by_cases h:(1000000000000000000:Int)≤c
 ·refine⟨(c-1000000000000000000).toNat,?_⟩
  have e:(D.int (c-1000000000000000000))=nD (c-1000000000000000000).toNat:=by unfold nD;congr 1;lia
  simp[zq,nR,pw,h,e]
 ·have rg:fU [.int 64]=some (.fix ((List.range 64).map nD)):=gW (n:=64) (by decide)
  simp[zq,nR,pw,h,rg,my]
  refine GC (l:=List.range 64) (by simp) 0 none none (fun n j z hj=>?_) (fun n' y' z'=>⟨n',by simp⟩)
  have p1:(rd (kJ (.int c) (.int 2147483629)):DM D)=pure (.int (c%2147483629)):=ut (by decide)
  have p2:(rd (gM (.int 7919) (nD j)):DM D)=pure (.int (7919*(j:Int))):=oH (uN (by decide))
  have b1:=Int.emod_nonneg c (b:=2147483629) (by decide)
  have b2:=Int.emod_lt_of_pos c (b:=2147483629) (by decide)
  have p3:(rd (gM (.int (c%2147483629+7919*(j:Int)+1)) (.int 48271)):DM D)=pure (.int ((c%2147483629+7919*(j:Int)+1)*48271)):=oH (uO (by decide))
  have p4:∀i:Int,(rd (kJ (.int i) (.int 2147483647)):DM D)=pure (.int (i%2147483647)):=fun i=>ut (by decide)
  simp[p1,p2,p3,p4]
  generalize ((c%2147483629+7919*(j:Int)+1)*48271)=X
  have c1:=Int.emod_nonneg X (b:=2147483647) (by decide)
  have c2:=Int.emod_lt_of_pos X (b:=2147483647) (by decide)
  generalize X%2147483647=Y at c1 c2
  have p5:(rd (gM (.int Y) (.int Y)):DM D)=pure (.int (Y*Y)):=oH (uO (by lia))
  have p6:(rd (gM (.int 69621) (nD j)):DM D)=pure (.int (69621*(j:Int))):=oH (uN (by decide))
  have p7:∀i:Int,(rd (kJ (.int i) (.int 2147483587)):DM D)=pure (.int (i%2147483587)):=fun i=>ut (by decide)
  have p8:(rd (gM (nD n) (.int 2147483587)):DM D)=pure (.int ((n:Int)*2147483587)):=oH (uO (by decide))
  simp[p5,p6,p7,p8]
  generalize (Y*Y+69621*(j:Int)+7)=Z
  have d1:=Int.emod_nonneg Z (b:=2147483587) (by decide)
  generalize Z%2147483587=W at d1
  refine⟨n*2147483587+W.toNat,W.toNat,?_⟩
  have e1:D.int ((n:Int)*2147483587+W)=nD (n*2147483587+W.toNat):=by unfold nD;congr 1;lia
  have e2:D.int W=nD W.toNat:=by unfold nD;congr 1;lia
  rw[e1,e2]
noncomputable def MP(p w:Nat)(M:Mo)(i:Nat)(δ:ao)(M1:Mo):Prop:=∃(z:Option D) (l:List Nat),δ=[some (.ref p),some (nD w),some (.ref M.length),z]∧l.length=i∧(∀n∈l,n<1000000)∧M1[M.length]?=some (.lst (l.map nD))∧cC p M1∧Sb p M M1
theorem Di {p:Nat}{M:Mo}{w:Nat} (h:cC p M) (h1:1≤w) (h2:w≤25):Rn (BV [.ref p,nD w]) M fun d M'=>∃ l:List Nat,d=nT l∧l.length=w∧0<l.sum∧(∀ n∈l,n≤1000000)∧cC p M'∧Sb p M M':=by
 have pw:(rd (uT (.int 10) (.int 6)):DM D)=pure (.int 1000000):=by rw[wG (by decide)];rfl
 have rg:fU [nD w]=some (.fix ((List.range w).map nD)):=gW (by lia)
 have hp:=h.lt
 simp[BV,tL,pw,rg,my]
 refine Rn.dH (by simp) ?_
 refine Rn.bind (cu (MP p w M) _ 0 _ _ ⟨none,[],rfl,rfl,by simp,by simp,h.sb (q:=M.length) Sb.push (by lia),Sb.push⟩ (fun j d δ M1 hj hI=>?_)) (fun r M1 hI=>?_)
 ·obtain⟨z,l,rfl,hl,hb,hq,hp1,hs⟩:=hI
  have hj':j<w:=by
   have:=(List.getElem?_eq_some_iff.mp hj).1
   simpa using this
  simp
  refine Rn.bindRd (l.map nD) (by simp[aU,hq]) ?_
  refine Rn.bind (cM (far:=4) hp1 (by decide) (by decide)) fun d2 M2 ⟨t2,g2,e2,hp2,s2⟩=>?_
  refine Rn.bind (cM (far:=60) hp2 (by decide) (by decide)) fun d3 M3 ⟨t3,g3,e3,hp3,s3⟩=>?_
  refine Rn.bind (cM (far:=1000000) hp3 (by decide) (by decide)) fun d4 M4 ⟨t4,g4,e4,hp4,s4⟩=>?_
  subst e2 e3 e4
  have ml:dN [.int 0,.int 1,nD t2,nD t3,nD t4]=pure (.lst ([0,1,t2,t3,t4].map nD)):=cO (by simp)
  rw[ml,au]
  refine Rn.bind (cM (far:=5) hp4 (by decide) (by decide)) fun d5 M5 ⟨t5,g5,e5,hp5,s5⟩=>?_
  subst e5
  have h5:t5<[0,1,t2,t3,t4].length:=by simp;lia
  refine Rn.bindRd (nD ([0,1,t2,t3,t4][t5])) (by
   show atI ([0,1,t2,t3,t4].map nD) (t5:Int)=_
   exact mR (by rw[List.getElem?_map,List.getElem?_eq_getElem h5];rfl)) ?_
  have q5:M5[M.length]?=some (.lst (l.map nD)):=s5.at (by lia) (s4.at (by lia) (s3.at (by lia) (s2.at (by lia) hq)))
  have lt5:=(List.getElem?_eq_some_iff.mp q5).1
  refine Rn.run (zu q5 (by simp;lia)) ?_
  have bnd:[0,1,t2,t3,t4][t5]<1000000:=by
   have:=List.getElem_mem h5
   generalize [0,1,t2,t3,t4][t5]=x at this
   simp at this
   lia
  refine Rn.pure ⟨_,rfl,some d,l++[[0,1,t2,t3,t4][t5]],rfl,by simp[hl],fun n hn=>?_,?_,hp5.sb (q:=M.length) Sb.set (by lia),?_⟩
  ·rcases List.mem_append.mp hn with k | k
   ·exact hb n k
   ·simp only[List.mem_singleton] at k;subst k;exact bnd
  ·rw[List.getElem?_set_self lt5];simp
  ·exact Sb.new (p:=p) (.inr (hs.trans (s2.trans (s3.trans (s4.trans s5)))).le) (Nat.le_refl _) Sb.set (hs.trans (s2.trans (s3.trans (s4.trans s5))))
 ·obtain ⟨δ',rfl,z,l,rfl,hl,hb,hq,hp1,hs⟩:=hI
  have hl':l.length=w:=by simpa using hl
  cases l with
  |nil=>simp at hl';lia
  | cons a l=>
    simp
    refine Rn.bindRd (nD a) (fX (i:=0) hq rfl) ?_
    have e:(rd (cg (nD a) (.int 1)):DM D)=pure (nD (a+1)):=by unfold nD;rw[wF];rfl
    rw[e,au]
    refine Rn.bind (cM (far:=(w:Int)) hp1 (by lia) (by lia)) fun d2 M2 ⟨t2,g2,e2,hp2,s2⟩=>?_
    subst e2
    have q2:=s2.at (q:=M.length) (by lia) hq
    have lt2:=(List.getElem?_eq_some_iff.mp q2).1
    have ht2:t2<(a::l).length:=by lia
    refine Rn.run (fM q2 (by rw[List.length_map];exact ht2)) ?_
    have e3:((a::l).map nD).set t2 (nD (a+1))=((a::l).set t2 (a+1)).map nD:=by rw[List.map_set]
    rw[e3]
    refine Rn.rd (a:=nT ((a::l).set t2 (a+1))) ?_ ⟨_,rfl,by rw[List.length_set];exact hl',?_,fun n hn=>?_,hp2.sb (q:=M.length) Sb.set (by lia),Sb.new (p:=p) (.inr (hs.trans s2).le) (Nat.le_refl _) Sb.set (hs.trans s2)⟩
    ·show (aU (.ref M.length) _).map _=_
     simp only[aU,List.getElem?_set_self lt2];rfl
    ·have:a+1∈(a::l).set t2 (a+1):=List.mem_set ht2 (a+1)
     have:=qP this
     lia
    ·have ha:=hb a (by simp)
     rcases List.mem_or_eq_of_mem_set hn with k | k
     ·have:=hb n k;lia
     ·lia
theorem aK{f g:ao->DM Fl}{δ:ao}{M:Mo}{Q:Fl->Mo->Prop}(h:∀K:Fl->DM Fl,(∀δ',K (.nx δ')=g δ')->Rn (f δ>>=K) M Q):Rn (mK f g δ) M Q:=by
 have:=h (fun r=>match r with | .nx δ'=>g δ' | r=>Pure.pure r) (fun _=>rfl)
 exact this
theorem Il{n t:Nat}{M:Mo}{l:List D}(h:M[n]?=some (.lst l))(ht:t<l.length)(hl:l.length≤1000000):Gy (.ref n) [nD t] M=some (.ok l[t],M.set n (.lst (l.eraseIdx t))):=by
 unfold nD
 delta Gy
 dsimp only
 rw[h]
 dsimp only
 rw[Dd ht]
 dsimp only
 rw[List.getElem?_eq_getElem ht]
 dsimp only
 rw[if_pos (decide_eq_true ⟨by lia,by lia⟩)]
theorem tW:∀ (L:List D) (t:Nat) (ht:t<L.length),(L[t]::L.eraseIdx t).Perm L
 |a::L,0,_=>.refl _
 |a::L,t+1,ht=>by
   have ht':t<L.length:=by simpa using ht
   have ih:=tW L t ht'
   show (L[t]::a::L.eraseIdx t).Perm (a::L)
   exact (List.Perm.swap a L[t] _).trans (ih.cons a)
noncomputable def BZ:=aL 2 3 (pN jR)
noncomputable def MT(p q:Nat)(M0:Mo)(ds:List D)(rest:ao)(i:Nat)(δ:ao)(l:List D)(M:Mo):Prop:=(∃z,δ=z::rest)∧cC p M∧(Sb p M0 M)∧∃L,M[q]?=some (.lst L)∧(l++L).Perm ds∧l.length=i
theorem JT {p:Nat}{M:Mo}{ds:List D} (h:cC p M) (hd:ds.length≤1000):Rn (BZ [.ref p,.lst ds]) M fun d M'=>∃ l,d=.lst l∧l.Perm ds∧cC p M'∧Sb p M M':=by
 have ls:∀M,eY [.lst ds] M=some ds:=fun M=>rfl
 have al:(rd (o9 (.lst ds)):DM Itn)=pure (.fix ds):=rfl
 unfold BZ pN kY;dsimp only
 refine Rn.call rfl ?_
 refine aK fun K hK=>?_
 simp
 refine Rn.bindRd _ (ls M) ?_
 refine Rn.dH (by lia) ?_
 rw[hK];clear hK K
 simp[al,aP,bc]
 have hp:=h.lt
 refine Rn.bind (dY (dM (MT p M.length M ds [some (.ref M.length),some (.ref p)]) ds 0 _ _ _ ⟨⟨none,rfl⟩,h.sb (q:=M.length) Sb.push (by lia),Sb.push,ds,by simp,by simp,rfl⟩ (fun j d δ l M1 hj hI=>?_))) fun pr M2 hI=>?_
 ·obtain⟨⟨z,rfl⟩,hp1,sb1,L,hL,pm,hl⟩:=hI
  have hj':=(List.getElem?_eq_some_iff.mp hj).1
  have ln:=pm.length_eq
  rw[List.length_append] at ln
  have lt:l.length<sizeLine:=by show _<2^24;lia
  simp[bh]
  refine Rn.bindRd L (by simp only[aU,hL]) ?_
  refine Rn.bindRd (.int (L.length:Int)) (by show (aU (.ref M.length) M1).map _=_;simp only[aU,hL];rfl) ?_
  refine Rn.bind (cM (far:=(L.length:Int)) hp1 (by lia) (by lia)) fun d2 M3 ⟨t,g,e,hp3,s3⟩=>?_
  subst e
  have ht:t<L.length:=by lia
  have hL3:=s3.at (q:=M.length) (by lia) hL
  refine Rn.run (Il hL3 ht (by lia)) ?_
  simp only[lt,if_true]
  refine Rn.pure ⟨⟨_,rfl⟩,hp3.sb (q:=M.length) Sb.set (by lia),Sb.new (p:=p) (.inr (sb1.trans s3).le) (Nat.le_refl _) Sb.set (sb1.trans s3),L.eraseIdx t,List.getElem?_set_self (List.getElem?_eq_some_iff.mp hL3).1,?_,by simp[hl]⟩
  refine List.Perm.trans ?_ pm
  rw[List.append_assoc]
  exact List.Perm.append_left _ (tW L t ht)
 ·obtain⟨_,hp2,sb2,L,hL,pm,hl⟩:=hI
  have ln:=pm.length_eq
  rw[List.length_append] at ln
  have L0:L=[]:=by
   rw[←List.length_eq_zero_iff];lia
  subst L0
  exact Rn.pure ⟨_,rfl,_,rfl,by simpa using pm,hp2,sb2⟩
theorem Im{m:DM D}{v:D}(h:∀M,Rn m M fun d M'=>d=v∧M'=M):m=pure v:=by
 funext M
 obtain⟨d,M',e,rfl,rfl⟩:=h M
 exact e
noncomputable def vz:=aL 2 2 (jE o6)
noncomputable def BW:=aL 2 2 (jZ wL)
noncomputable def gF:=aL 2 2 (cI wQ)
theorem yJ{a b:List Nat}(h1:eZ a)(h2:eZ b)(hl:a.length=b.length):gF [nT a,nT b]=pure .non:=by
 have l1:(rd (dW [nT a]):DM D)=pure (.int (a.length:Int)):=by simp[nT]
 have l2:(rd (dW [nT b]):DM D)=pure (.int (b.length:Int)):=by simp[nT]
 simp[gF,cI,qm h1,qm h2,l1,l2,hl]
noncomputable def qX:=aL 2 5 (vG BW)
noncomputable def zp:=aL 2 2 kh
noncomputable def BX:=aL 3 3 vH
theorem G3{x y:Nat}(hx:0<x):LC x y≤x*y:=by
 unfold LC
 exact Nat.mul_le_mul_right _ (Nat.div_le_self _ _)
theorem Kf{f s:List Nat}(hl:f.length=s.length)(h:f.length≤1000):zp [nT f,nT s]=pure (nT ((List.range f.length).filter fun i=>decide (s.getD i 0<f.getD i 0))):=by
 have ln:(rd (dW [nT f]):DM D)=pure (.int (f.length:Int)):=by simp[nT]
 simp[zp,kh,ln,aP,bc,gW (n:=f.length) (by lia)]
 rw[pP (fun i=>decide (s.getD i 0<f.getD i 0)) id (by simp;lia) (fun i hi=>?_) (fun _ _ _=>rfl)]
 rotate_left
 ·have hi':=List.mem_range.mp hi
  have g1:(rd (cF (nT f) (nD i)):DM D)=pure (nD (f.getD i 0)):=oF (by rw[List.getD_eq_getElem?_getD,List.getElem?_eq_getElem hi'];rfl)
  have g2:(rd (cF (nT s) (nD i)):DM D)=pure (nD (s.getD i 0)):=oF (by rw[List.getD_eq_getElem?_getD,List.getElem?_eq_getElem (hl ▸ hi')];rfl)
  simp only[bR,g1,g2]
  simp[nD]
 simp[nT]
noncomputable def uf(f s:List Nat)(ps:List Nat):Int:=(ps.map fun i=>((f.getD i 0:Nat):Int)-((s.getD i 0:Nat):Int)).sum
theorem JR{f s ps:List Nat}(hl:f.length=s.length)(h:ps.length≤1000)(hp:∀i∈ps,i<f.length):BX [nT f,nT s,nT ps]=pure (.int (uf f s ps)):=by
 have at_:jV (nT ps)=some (.fix (ps.map nD)):=rfl
 simp[BX,vH,at_,aP,bc]
 rw[tQ (fun _=>true) (fun d=>match d with | .int i=>.int (((f.getD i.toNat 0:Nat):Int)-((s.getD i.toNat 0:Nat):Int)) | _=>.non) (by simp;lia) (fun _ _=>rfl) (fun d hd _=>?_)]
 rotate_left
 ·obtain⟨i,hi,rfl⟩:=List.mem_map.mp hd
  have hi':=hp i hi
  have g1:(rd (cF (nT f) (nD i)):DM D)=pure (nD (f.getD i 0)):=oF (by rw[List.getD_eq_getElem?_getD,List.getElem?_eq_getElem hi'];rfl)
  have g2:(rd (cF (nT s) (nD i)):DM D)=pure (nD (s.getD i 0)):=oF (by rw[List.getD_eq_getElem?_getD,List.getElem?_eq_getElem (hl ▸ hi')];rfl)
  simp only[bR,g1,g2]
  simp[nD]
 have e:((ps.map nD).filter fun _=>true)=ps.map nD:=List.filter_eq_self.mpr fun _ _=>rfl
 simp only[au,e]
 refine bH fun M=>?_
 rw[List.map_map]
 have:(ps.map ((fun d=>match d with | D.int i=>D.int (((f.getD i.toNat 0:Nat):Int)-((s.getD i.toNat 0:Nat):Int)) | _=>D.non) ∘ nD))=(ps.map fun i=>((f.getD i 0:Nat):Int)-((s.getD i 0:Nat):Int)).map D.int:=by
  rw[List.map_map]
  exact List.map_congr_left fun n _=>by simp[nD]
 show (intsOf _).map _=_
 rw[this,nY];rfl
theorem Cj{i:Int}(h:i.natAbs<2^1000):Builtin.Int.intBits i≤1000:=by
 unfold Builtin.Int.intBits
 split
 ·exact Nat.zero_le _
 ·rename_i h0
  have:i.natAbs≠0:=by intro z;apply h0;simp;lia
  exact (Nat.log2_lt this).mpr h
theorem HX{i j:Int}(h:i.natAbs<2^1000)(h':j.natAbs<2^1000):f9 i j=true:=by
 unfold f9
 have h1:=Cj h
 have h2:=Cj h'
 have:Builtin.Int.intTooBig ((Builtin.Int.intBits i:Int)+(Builtin.Int.intBits j:Int))=false:=by
  unfold Builtin.Int.intTooBig
  refine decide_eq_false fun q=>?_
  have hb:2000≤bitsLine:=by decide
  lia
 simp[this]
theorem yF{a b:Nat}(h:a<2^1000)(h':b<2^1000):(rd (gM (nD a) (nD b)):DM D)=pure (nD (a*b)):=by
 unfold nD
 rw[oH (HX (by simpa using h) (by simpa using h')),Int.natCast_mul]
theorem JQ{a b:Nat}(ha:0<a)(h1:a<2^1000)(h2:b<2^1000):BW [nD a,nD b]=pure (nD (LC a b)):=by
 have hg:0<Nat.gcd a b:=Nat.gcd_pos_of_pos_left _ ha
 have h3:Nat.gcd a b≤a:=Nat.gcd_le_left _ ha
 have e1:(rd (iV (nD a) (nD (Nat.gcd a b))):DM D)=pure (nD (a / Nat.gcd a b)):=yC hg (Nat.lt_of_le_of_lt h3 h1)
 have e2:(rd (gM (nD (a / Nat.gcd a b)) (nD b)):DM D)=pure (nD (a / Nat.gcd a b*b)):=yF (Nat.lt_of_le_of_lt (Nat.div_le_self _ _) h1) h2
 simp[BW,jZ,Js,e1,e2,LC]
theorem Nm{x y:Nat}(hx:x<2^400)(hy:y<2^400):x*y<2^1000:=Nat.lt_of_lt_of_le (Nat.mul_lt_mul_of_lt_of_lt hx hy) (by rw[←Nat.pow_add];exact Nat.pow_le_pow_right (by decide) (by decide))
theorem xO{x:Nat}(hx:x<2^400):x<2^1000:=Nat.lt_of_lt_of_le hx (Nat.pow_le_pow_right (by decide) (by decide))
theorem Jd{a b:List Nat}(h1:eZ a)(h2:eZ b)(s1:a.sum<2^400)(s2:b.sum<2^400):qX [nT a,nT b]=pure (.tup [nT (aR a b),nT (bD a b)]):=by
 have a1:jV (nT a)=some (.fix (a.map nD)):=rfl
 have a2:jV (nT b)=some (.fix (b.map nD)):=rfl
 have m1:=JQ h1.2.2 (b:=b.sum) (xO s1) (xO s2)
 have h0:=h1.2.2
 have h0':=h2.2.2
 have hL:LC a.sum b.sum<2^1000:=Nat.lt_of_le_of_lt (G3 h0) (Nm s1 s2)
 have e1:(rd (iV (nD (LC a.sum b.sum)) (nD a.sum)):DM D)=pure (nD (LC a.sum b.sum / a.sum)):=yC h0 (xO s1)
 have e2:(rd (iV (nD (LC a.sum b.sum)) (nD b.sum)):DM D)=pure (nD (LC a.sum b.sum / b.sum)):=yC h0' (xO s2)
 have mem:∀{l:List Nat}{n:Nat},n∈l->l.sum<2^400->n<2^1000:=fun h h'=>xO (Nat.lt_of_le_of_lt (qP h) h')
 simp[qX,vG,a1,a2,m1,aP,bc]
 rw[pP (fun _=>true) (fun n=>n*(LC a.sum b.sum / a.sum)) (by have:=h1.2.1;lia) (fun _ _=>rfl) (fun n hn _=>?_)]
 rotate_left
 ·have e:(rd (gM (nD n) (nD (LC a.sum b.sum / a.sum))):DM D)=pure (nD (n*(LC a.sum b.sum / a.sum))):=yF (mem hn s1) (Nat.lt_of_le_of_lt (Nat.div_le_self _ _) hL)
  simp[e1,e]
 rw[pP (fun _=>true) (fun n=>n*(LC a.sum b.sum / b.sum)) (by have:=h2.2.1;lia) (fun _ _=>rfl) (fun n hn _=>?_)]
 rotate_left
 ·have e:(rd (gM (nD n) (nD (LC a.sum b.sum / b.sum))):DM D)=pure (nD (n*(LC a.sum b.sum / b.sum))):=yF (mem hn s2) (Nat.lt_of_le_of_lt (Nat.div_le_self _ _) hL)
  simp[e2,e]
 simp only[au,List.filter_eq_self.mpr (fun _ _=>rfl)]
 exact dm (by simp)
theorem Ip{a b:Nat}(ha:a<2^62)(hb:b<2^62):uW [nD a,nD b]=some (.fix ((List.range (b-a)).map fun k=>nD (a+k))):=by
 have e:∀x:Nat,x<2^62->oK (x:Int)=true:=fun x h=>by unfold oK;simp;lia
 have e2:((b:Int)-(a:Int)).toNat=b-a:=by lia
 simp[uW,nD,e a ha,e b hb,e2,oJ]
theorem En {l:List Nat}{c:Nat} (h:∀ n∈l,n≤c):l.sum≤l.length * c:=by
 induction l with
 |nil=>simp
 |cons a l ih=>
   have:=ih fun n hn=>h n (by simp[hn])
   have:=h a (by simp)
   rw[List.sum_cons,List.length_cons,Nat.add_mul]
   lia
theorem Dm{a b:Nat}(h:a<2^b){c:Nat}(hc:b≤c):a<2^c:=Nat.lt_of_lt_of_le h (Nat.pow_le_pow_right (by decide) hc)
noncomputable def BR:=aL 2 10 lK
structure Ex(M M':Mo):Prop where
 le:M.length≤M'.length
 keep:∀q,q<M.length->M'[q]?=M[q]?
noncomputable def vy(n:Nat):List D:=(List.replicate n 0).map nD
noncomputable def G4(M0:Mo)(n:Nat)(rest:ao)(i:Nat)(δ:ao)(l:List D)(M:Mo):Prop:=(∃z,δ=z::rest)∧l=(List.range i).map (fun x=>D.ref (M0.length+x))∧M.length=M0.length+i∧Ex M0 M∧∀x,x<i->M[M0.length+x]?=some (.lst (vy n))
theorem GK {n:Nat}{M:Mo} (hn:n≤25) {x:Option D}:Rn (aZ (gN 0) (fun _=>pure true) (bh fun δ=>opt δ[1]?.join >>= fun y=>uP (.lst [.int 0]) y) ((List.range n).map nD) (x::[some (nD n)]) []) M fun p M'=>G4 M n [some (nD n)] n p.1 p.2 M':=by
 have:=dM (fg:=gN 0) (ft:=fun _=>pure true) (fb:=bh fun δ=>opt δ[1]?.join>>=fun y=>uP (.lst [.int 0]) y) (G4 M n [some (nD n)]) ((List.range n).map nD) 0 (x::[some (nD n)]) [] M ⟨⟨x,rfl⟩,rfl,rfl,⟨Nat.le_refl _,fun _ _=>rfl⟩,fun x h=>by lia⟩ (fun j d δ l M1 hj hI=>?_)
 ·simpa using this
 ·obtain ⟨⟨z,rfl⟩,rfl,hl,he,hr⟩:=hI
  have hj':j<n:=by
   have:=(List.getElem?_eq_some_iff.mp hj).1
   simpa using this
  have lt:j<sizeLine:=by show j<2^24;lia
  simp[bh]
  refine xT (by lia) ?_
  simp[lt]
  refine Rn.pure ⟨⟨_,rfl⟩,?_,by simp[hl];lia,⟨by simp;have:=he.le;lia,fun q hq=>by rw[List.getElem?_append_left (by lia)];exact he.keep q hq⟩,fun x hx=>?_⟩
  ·rw[List.range_succ,List.map_append,hl];simp
  ·by_cases e:x=j
   ·subst e
    rw[show M.length+x=M1.length by lia,List.getElem?_concat_length];simp[vy]
   ·rw[List.getElem?_append_left (by lia)]
    exact hr x (by lia)
noncomputable def row(n:Nat)(g:Nat->Nat):List D:=((List.range n).map g).map nD
theorem fD{n:Nat}{g:Nat->Nat}{i:Nat}(h:i<n):(row n g)[i]?=some (nD (g i)):=by
 unfold row
 rw[List.getElem?_map,List.getElem?_map,List.getElem?_range h];rfl
theorem jP{n:Nat}{g:Nat->Nat}{i v:Nat}(h:i<n):(row n g).set i (nD v)=row n (up g i v):=by
 unfold row
 apply List.ext_getElem?
 intro k
 by_cases e:k=i
 ·subst e
  rw[List.getElem?_set_self (by simpa using h)]
  simp[List.getElem?_range h,up]
 ·rw[List.getElem?_set_ne (Ne.symm e)]
  simp only[List.getElem?_map]
  by_cases hk:k<n
  ·simp[List.getElem?_range hk,up,e]
  ·rw[List.getElem?_eq_none (by simp;lia)];rfl
theorem yK(n:Nat):vy n=row n fun _=>0:=by
 unfold vy row
 congr 1
 apply List.ext_getElem?
 intro k
 by_cases hk:k<n
 ·simp[List.getElem?_range hk,hk]
 ·rw[List.getElem?_eq_none (by simp;lia),List.getElem?_eq_none (by simp;lia)]
structure JS(M0:Mo)(n e:Nat)(A:Nat->Nat->Nat)(M:Mo):Prop where
 ex:Ex M0 M
 len:M.length=M0.length+n+e
 row:∀x,x<n->M[M0.length+x]?=some (.lst (row n (A x)))
theorem JS.set {M0:Mo}{n e:Nat}{A:Nat->Nat->Nat}{M:Mo} (h:JS M0 n e A M) {x y v:Nat} (hx:x<n) (hy:y<n):iR (.ref (M0.length + x)) (nD y) (nD v) M=some (.ok (),M.set (M0.length + x) (.lst (K.row n (up (A x) y v))))∧JS M0 n e (eG A x y v) (M.set (M0.length + x) (.lst (K.row n (up (A x) y v)))):=by
 have hr:=h.row x hx
 refine⟨?_,⟨⟨by simp;exact h.ex.le,fun q hq=>by rw[List.getElem?_set_ne (by lia)];exact h.ex.keep q hq⟩,by rw[List.length_set];exact h.len,fun i hi=>?_⟩⟩
 ·have:=fM (v:=nD v) hr (i:=y) (by simpa[K.row] using hy)
  rw[jP hy] at this
  exact this
 ·by_cases e':i=x
  ·subst e'
   rw[List.getElem?_set_self (List.getElem?_eq_some_iff.mp hr).1]
   simp[eG]
  ·rw[List.getElem?_set_ne (by lia),h.row i hi]
   simp[eG,e']
theorem yE(a b:Nat):(rd (wD [nD a,nD b]):DM D)=pure (nD (min a b)):=by
 unfold nD
 rw[DX]
 have:(if (b:Int)<(a:Int) then (b:Int) else (a:Int))=((min a b:Nat):Int):=by split<;>lia
 rw[this]
theorem JS.push{M0:Mo}{n e:Nat}{A:Nat->Nat->Nat}{M:Mo}(h:JS M0 n e A M){o:DO}:JS M0 n (e+1) A (M++[o]):=
 ⟨⟨by have:=h.ex.le;simp;lia,fun q hq=>by have:=h.ex.le;rw[List.getElem?_append_left (by lia)];exact h.ex.keep q hq⟩,by have:=h.len;simp;lia,fun x hx=>by have:=h.len;rw[List.getElem?_append_left (by lia)];exact h.row x hx⟩
noncomputable def refs(b n:Nat):D:=.lst ((List.range n).map fun x=>D.ref (b+x))
theorem gB{b n x:Nat}(h:x<n):(rd (cF (refs b n) (nD x)):DM D)=pure (.ref (b+x)):=Bk (by rw[List.getElem?_map,List.getElem?_range h];rfl)
noncomputable def GZ(M0:Mo)(n:Nat)(F T:Nat->Nat)(i:Nat)(δ:ao)(M:Mo):Prop:=(∃z,δ=[some (.tup (row n F)),some (.tup (row n T)),some (nD n),some (refs M0.length n),z,none,none,none,none,none])∧JS M0 n 0 (fun x y=>if x=y∧x<i then min (F x) (T x) else 0) M
theorem Hy{F T:Nat->Nat}{j:Nat}:eG (fun x y=>if x=y∧x<j then min (F x) (T x) else 0) j j (min (F j) (T j))=fun x y=>if x=y∧x<j+1 then min (F x) (T x) else 0:=by
 funext x y
 unfold eG
 by_cases e:x=j
 ·subst e
  rw[if_pos rfl]
  by_cases k:y=x
  ·subst k;rw[eU,if_pos ⟨rfl,by lia⟩]
  ·rw[ir k];dsimp only;rw[if_neg (by lia),if_neg (by lia)]
 ·rw[if_neg e]
  dsimp only
  by_cases k:x=y∧x<j
  ·rw[if_pos k,if_pos ⟨k.1,by lia⟩]
  ·rw[if_neg k,if_neg (by lia)]
theorem pX{n:Nat}{F:Nat->Nat}{j:Nat}(h:j<n):(rd (cF (.tup (row n F)) (nD j)):DM D)=pure (nD (F j)):=oG (fD h)
noncomputable def Ld(M0:Mo)(rest:ao)(G:Nat->Nat)(i:Nat)(δ:ao)(l:List D)(M:Mo):Prop:=(∃z,δ=z::rest)∧l=row i G∧M=M0
theorem vM {fe:ao->DM D}{rest:ao}{n:Nat}{G:Nat->Nat}{M:Mo}{x:Option D} (hn:n≤1000) (h:∀ j,j<n->Rn (fe (some (nD j)::rest)) M fun d M'=>M'=M∧d=nD (G j)) :
  Rn (aZ (gN 0) (fun _=>pure true) (bh fe) ((List.range n).map nD) (x::rest) []) M fun p M'=>M'=M∧p.2=row n G:=by
 refine (dM (Ld M rest G) ((List.range n).map nD) 0 (x::rest) [] M ⟨⟨x,rfl⟩,rfl,rfl⟩ (fun j d δ l M1 hj hI=>?_)).mono fun p M' hI=>?_
 ·obtain⟨⟨z,rfl⟩,rfl,rfl⟩:=hI
  have hj':j<n:=by
   have:=(List.getElem?_eq_some_iff.mp hj).1
   simpa using this
  have ed:d=nD j:=by
   rw[List.getElem?_map,List.getElem?_range hj'] at hj
   exact (Option.some.inj hj).symm
  subst ed
  have lt:(row (0+j) G).length<sizeLine:=by show _<2^24;simp[row];lia
  rw[lu,au,au]
  show Rn (bh fe (some (nD j)::rest) (row (0+j) G)) M1 _
  unfold bh
  refine Rn.bind (h j hj') fun d M' ⟨e1,e2⟩=>?_
  subst e1 e2
  rw[if_pos lt]
  refine Rn.pure ⟨⟨_,rfl⟩,?_,rfl⟩
  simp[row,List.range_succ]
 ·obtain⟨_,e1,e2⟩:=hI
  exact⟨e2,by rw[e1];simp⟩
theorem xN{n e x:Nat}{A:Nat->Nat->Nat}{M0 M:Mo}(js:JS M0 n e A M){y:Nat}(hx:x<n)(hy:y<n):cF (.ref (M0.length+x)) (nD y) M=some (nD (A x y)):=fX (js.row x hx) (fD hy)
theorem je{a b:Nat}(h:b≤a):(rd (o4 (nD a) (nD b)):DM D)=pure (nD (a-b)):=by
 unfold nD
 rw[Hn]
 have:(a:Int)-(b:Int)=((a-b:Nat):Int):=by lia
 rw[this]
structure JG(M0:Mo)(n:Nat)(g:G)(M:Mo):Prop where
 js:JS M0 n 2 g.A M
 left:M[M0.length+n]?=some (.lst (row n g.L))
 want:M[M0.length+n+1]?=some (.lst (row n g.W))
theorem JS.other{M0:Mo}{n e q:Nat}{A:Nat->Nat->Nat}{M:Mo}(h:JS M0 n e A M)(hq:M0.length+n≤q){o:DO}:JS M0 n e A (M.set q o):=
 ⟨⟨by have:=h.ex.le;simp;lia,fun k hk=>by rw[List.getElem?_set_ne (by lia)];exact h.ex.keep k hk⟩,by rw[List.length_set];exact h.len,fun x hx=>by rw[List.getElem?_set_ne (by lia)];exact h.row x hx⟩
theorem JG.setA(h:JG M0 n g M)(hx:x<n)(hy:y<n):∃M',iR (.ref (M0.length+x)) (nD y) (nD v) M=some (.ok (),M')∧JG M0 n ⟨eG g.A x y v,g.L,g.W⟩ M':=by
 obtain⟨e,j⟩:=h.js.set (v:=v) hx hy
 refine⟨_,e,j,?_,?_⟩
 ·rw[List.getElem?_set_ne (by lia)];exact h.left
 ·rw[List.getElem?_set_ne (by lia)];exact h.want
theorem JG.setL(h:JG M0 n g M)(hx:x<n):∃M',iR (.ref (M0.length+n)) (nD x) (nD v) M=some (.ok (),M')∧JG M0 n ⟨g.A,up g.L x v,g.W⟩ M':=by
 have e:=fM (v:=nD v) h.left (i:=x) (by simpa[row] using hx)
 rw[jP hx] at e
 refine⟨_,e,h.js.other (Nat.le_refl _),?_,?_⟩
 ·rw[List.getElem?_set_self (List.getElem?_eq_some_iff.mp h.left).1]
 ·rw[List.getElem?_set_ne (by lia)];exact h.want
theorem JG.setW(h:JG M0 n g M)(hy:y<n):∃M',iR (.ref (M0.length+n+1)) (nD y) (nD v) M=some (.ok (),M')∧JG M0 n ⟨g.A,g.L,up g.W y v⟩ M':=by
 have e:=fM (v:=nD v) h.want (i:=y) (by simpa[row] using hy)
 rw[jP hy] at e
 refine⟨_,e,h.js.other (by lia),?_,?_⟩
 ·rw[List.getElem?_set_ne (by lia)];exact h.left
 ·rw[List.getElem?_set_self (List.getElem?_eq_some_iff.mp h.want).1]
theorem Io(a b:Nat):(rd (dG (fun _ _=>true) (fun i j=>.int (i+j)) (nD a) (nD b)):DM D)=pure (nD (a+b)):=bH fun M=>by
 show some (D.int ((a:Int)+(b:Int)))=_
 unfold nD
 rw[Int.natCast_add]
noncomputable def sp(n i:Nat):List (Nat×Nat):=(List.range i).flatMap fun x=>(List.range n).map fun y=>(x,y)
noncomputable abbrev Hf(M0:Mo)(n:Nat)(F T:Nat->Nat)(z z7 z8 z9:Option D):ao:=[some (.tup (row n F)),some (.tup (row n T)),some (nD n),some (refs M0.length n),z,some (.ref (M0.length+n)),some (.ref (M0.length+n+1)),z7,z8,z9]
noncomputable def Nb(M0:Mo)(n:Nat)(F T:Nat->Nat)(z:Option D)(g:G)(i:Nat)(δ:ao)(M:Mo):Prop:=(∃z7 z8 z9,δ=Hf M0 n F T z z7 z8 z9)∧JG M0 n (g.run (sp n i)) M
noncomputable def Oa(M0:Mo)(n:Nat)(F T:Nat->Nat)(z:Option D)(g:G)(x j:Nat)(δ:ao)(M:Mo):Prop:=(∃z8 z9,δ=Hf M0 n F T z (some (nD x)) z8 z9)∧JG M0 n (g.run (sp n x++(List.range j).map fun y=>(x,y))) M
theorem yM(g:G)(l:List (Nat×Nat))(x y:Nat):g.run (l++[(x,y)])=(g.run l).step x y:=by
 unfold G.run
 rw[List.foldl_append];rfl
noncomputable def La(M0:Mo)(rest:ao)(R:Nat->D)(i:Nat)(δ:ao)(l:List D)(M:Mo):Prop:=(∃z,δ=z::rest)∧l=(List.range i).map R∧M=M0
theorem gJ {fe:ao->DM D}{rest:ao}{n:Nat}{hd R:Nat->D}{M:Mo}{x:Option D} (hn:n≤1000) (h:∀ j,j<n->Rn (fe (some (hd j)::rest)) M fun d M'=>M'=M∧d=R j) :
  Rn (aZ (gN 0) (fun _=>pure true) (bh fe) ((List.range n).map hd) (x::rest) []) M fun p M'=>M'=M∧p.2=(List.range n).map R:=by
 refine (dM (La M rest R) ((List.range n).map hd) 0 (x::rest) [] M ⟨⟨x,rfl⟩,rfl,rfl⟩ (fun j d δ l M1 hj hI=>?_)).mono fun p M' hI=>?_
 ·obtain⟨⟨z,rfl⟩,rfl,rfl⟩:=hI
  have hj':j<n:=by
   have:=(List.getElem?_eq_some_iff.mp hj).1
   simpa using this
  have ed:d=hd j:=by
   rw[List.getElem?_map,List.getElem?_range hj'] at hj
   exact (Option.some.inj hj).symm
  subst ed
  have lt:((List.range (0+j)).map R).length<sizeLine:=by show _<2^24;simp;lia
  rw[lu,au,au]
  show Rn (bh fe (some (hd j)::rest) ((List.range (0+j)).map R)) M1 _
  unfold bh
  refine Rn.bind (h j hj') fun d M' ⟨e1,e2⟩=>?_
  subst e1 e2
  rw[if_pos lt]
  refine Rn.pure ⟨⟨_,rfl⟩,?_,rfl⟩
  simp[List.range_succ]
 ·obtain⟨_,e1,e2⟩:=hI
  exact⟨e2,by rw[e1];simp⟩
noncomputable def jn(n:Nat)(A:Nat->Nat->Nat):D:=.tup ((List.range n).map fun x=>.tup (row n (A x)))
noncomputable def tZ(n:Nat)(F T:Nat->Nat):G:=G.run ⟨fun x y=>if x=y∧x<n then min (F x) (T x) else 0,fun x=>F x-min (F x) (T x),fun x=>T x-min (F x) (T x)⟩ (sp n n)
theorem JP {F T:Nat->Nat}{n:Nat}{M:Mo} (hn:n≤25):Rn (BR [.tup (row n F),.tup (row n T)]) M fun d M'=>d=jn n (tZ n F T).A∧Ex M M':=by
 have rg:fU [nD n]=some (.fix ((List.range n).map nD)):=gW (by lia)
 have m0:dN [.int 0]=pure (.lst [.int 0]):=cO (by simp)
 have ln:(rd (dW [.tup (row n F)]):DM D)=pure (nD n):=by simp[row,nD]
 unfold BR lK gP;dsimp only
 refine Rn.call rfl ?_
 refine aK fun K hK=>?_
 simp[ln]
 rw[hK];clear hK K
 refine aK fun K hK=>?_
 simp[rg,m0,aP,bc]
 refine Rn.bind (dY (GK hn)) fun p M1 ⟨_,e1,l1,x1,r1⟩=>?_
 rw[e1,hK];clear hK K
 refine aK fun K hK=>?_
 simp[rg,my]
 have js0:JS M n 0 (fun x y=>if x=y∧x<0 then min (F x) (T x) else 0) M1  :=⟨x1,l1,fun x hx=>by
  have z:(fun _:Nat=>0)=fun y=>if x=y∧x<0 then min (F x) (T x) else 0:=by
   funext y
   rw[if_neg (by lia)]
  rw[r1 x hx,yK,z]⟩
 have st0:GZ M n F T 0 [some (.tup (row n F)),some (.tup (row n T)),some (nD n),some (refs M.length n),none,none,none,none,none,none] M1:=⟨⟨none,rfl⟩,js0⟩
 show Rn (forL _ _ _ [some (.tup (row n F)),some (.tup (row n T)),some (nD n),some (refs M.length n),none,none,none,none,none,none]>>=K) M1 _
 refine Rn.bind (cu (GZ M n F T) _ 0 _ _ st0 (fun j d δ M2 hj hI=>?_)) (fun r M2 hI=>?_)
 ·obtain⟨⟨z,rfl⟩,js⟩:=hI
  have hj':j<n:=by
   have:=(List.getElem?_eq_some_iff.mp hj).1
   simpa using this
  have ed:d=nD j:=by
   rw[List.getElem?_map,List.getElem?_range hj'] at hj
   exact (Option.some.inj hj).symm
  subst ed
  simp[pX hj',yE,gB hj']
  rw[Nat.zero_add] at js
  obtain⟨se,js'⟩:=js.set (v:=min (F j) (T j)) hj' hj'
  refine Rn.run se (Rn.pure ⟨_,rfl,⟨_,rfl⟩,?_⟩)
  rw[Hy] at js'
  exact js'
 obtain⟨δ',rfl,⟨z,rfl⟩,js⟩:=hI
 rw[hK];clear hK K
 rw[List.length_map,List.length_range,Nat.zero_add] at js
 -- what is left
 refine aK fun K hK=>?_
 simp[rg,aP,bc]
 refine Rn.bind (dY (vM (G:=fun x=>F x-min (F x) (T x)) (by lia) (fun j hj=>?_))) fun p3 M3 ⟨e3,q3⟩=>?_
 ·simp[pX hj,gB hj]
  refine Rn.bindRd _ (xN js hj hj) ?_
  rw[if_pos ⟨rfl,hj⟩,je (by lia)]
  exact Rn.pure ⟨rfl,rfl⟩
 subst e3
 rw[q3]
 refine Rn.run (a:=.ref M3.length) (M':=M3++[.lst (row n fun x=>F x-min (F x) (T x))]) rfl ?_
 rw[hK];clear hK K
 have js3:JS M n 1 (fun x y=>if x=y∧x<n then min (F x) (T x) else 0) (M3++[.lst (row n fun x=>F x-min (F x) (T x))]):=js.push
 have lf3:(M3++[.lst (row n fun x=>F x-min (F x) (T x))])[M.length+n]?=some (.lst (row n fun x=>F x-min (F x) (T x))):=by
  rw[show M.length+n=M3.length by have:=js.len;lia,List.getElem?_concat_length]
 rw[show M3.length=M.length+n by have:=js.len;lia]
 revert js3 lf3
 generalize M3++[.lst (row n fun x=>F x-min (F x) (T x))]=M4
 intro js3 lf3
 -- what is wanted
 refine aK fun K hK=>?_
 simp[rg,aP,bc]
 refine Rn.bind (dY (vM (G:=fun x=>T x-min (F x) (T x)) (by lia) (fun j hj=>?_))) fun p5 M5 ⟨e5,q5⟩=>?_
 ·simp[pX hj,gB hj]
  refine Rn.bindRd _ (xN js3 hj hj) ?_
  rw[if_pos ⟨rfl,hj⟩,je (by lia)]
  exact Rn.pure ⟨rfl,rfl⟩
 subst e5
 rw[q5]
 refine Rn.run (a:=.ref M5.length) (M':=M5++[.lst (row n fun x=>T x-min (F x) (T x))]) rfl ?_
 rw[hK];clear hK K
 have jg:JG M n ⟨fun x y=>if x=y∧x<n then min (F x) (T x) else 0,fun x=>F x-min (F x) (T x),fun x=>T x-min (F x) (T x)⟩ (M5++[.lst (row n fun x=>T x-min (F x) (T x))]):=by
  refine⟨js3.push,?_,?_⟩
  ·rw[List.getElem?_append_left (by have:=js3.len;lia)];exact lf3
  ·rw[show M.length+n+1=M5.length by have:=js3.len;lia,List.getElem?_concat_length]
 rw[show M5.length=M.length+n+1 by have:=js3.len;lia]
 revert jg
 generalize (M5++[DO.lst (row n fun x=>T x-min (F x) (T x))])=M6
 generalize hg0:(⟨fun x y=>if x=y∧x<n then min (F x) (T x) else 0,fun x=>F x-min (F x) (T x),fun x=>T x-min (F x) (T x)⟩:G)=g0
 intro jg
 refine aK fun K hK=>?_
 simp only[bR,bF,aO,rg,my]
 show Rn (forL _ _ _ (Hf M n F T z none none none)>>=K) M6 _
 refine Rn.bind (cu (Nb M n F T z g0) _ 0 _ _ ⟨⟨none,none,none,rfl⟩,jg⟩ (fun i d δ M7 hi hI=>?_)) (fun r M7 hI=>?_)
 ·obtain ⟨⟨z7,z8,z9,rfl⟩,j7⟩:=hI
  have hi':i<n:=by
   have:=(List.getElem?_eq_some_iff.mp hi).1
   simpa using this
  have ed:d=nD i:=by
   rw[List.getElem?_map,List.getElem?_range hi'] at hi
   exact (Option.some.inj hi).symm
  subst ed
  rw[Nat.zero_add] at j7
  rw[lu,au]
  simp only[vV,bR,rg]
  show Rn (forL _ _ _ (Hf M n F T z (some (nD i)) z8 z9)) M7 _
  refine (cu (Oa M n F T z g0 i) _ 0 _ _ ⟨⟨z8,z9,rfl⟩,by simpa using j7⟩ (fun j d δ M8 hj hI=>?_)).mono (fun r M8 hI=>?_)
  ·obtain⟨⟨z8,z9,rfl⟩,j8⟩:=hI
   have hj':j<n:=by
    have:=(List.getElem?_eq_some_iff.mp hj).1
    simpa using this
   have ed:d=nD j:=by
    rw[List.getElem?_map,List.getElem?_range hj'] at hj
    exact (Option.some.inj hj).symm
   subst ed
   rw[Nat.zero_add] at j8
   generalize hg:g0.run (sp n i++(List.range j).map fun y=>(i,y))=g at j8
   rw[lu,au]
   refine aK fun K hK=>?_
   simp
   refine Rn.bindRd _ (fX j8.left (fD hi')) ?_
   refine Rn.bindRd _ (fX j8.want (fD hj')) ?_
   rw[yE,au,hK];clear hK K
   obtain⟨N1,s1,k1⟩:=j8.setA (v:=g.A i j+min (g.L i) (g.W j)) hi' hj'
   obtain⟨N2,s2,k2⟩:=k1.setL (v:=g.L i-min (g.L i) (g.W j)) hi'
   obtain⟨N3,s3,k3⟩:=k2.setW (v:=g.W j-min (g.L i) (g.W j)) hj'
   refine aK fun K hK=>?_
   simp[gB hi']
   refine Rn.bindRd _ (uL (j8.js.row i hi') (fD hj')) ?_
   rw[Io,au]
   refine Rn.run s1 ?_
   rw[hK];clear hK K
   refine aK fun K hK=>?_
   simp
   refine Rn.bindRd _ (uL k1.left (fD hi')) ?_
   rw[je (Nat.min_le_left _ _),au]
   refine Rn.run s2 ?_
   rw[hK];clear hK K
   simp
   refine Rn.bindRd _ (uL k2.want (fD hj')) ?_
   rw[je (Nat.min_le_right _ _),au]
   refine Rn.run s3 (Rn.pure ⟨_,rfl,⟨_,_,rfl⟩,?_⟩)
   rw[List.range_succ,List.map_append,←List.append_assoc]
   show JG M n (g0.run (_++[(i,j)])) N3
   rw[yM,hg]
   exact k3
  ·obtain⟨δ',rfl,⟨z8,z9,rfl⟩,j9⟩:=hI
   refine⟨_,rfl,⟨_,_,_,rfl⟩,?_⟩
   rw[List.length_map,List.length_range,Nat.zero_add] at j9
   rw[Nat.zero_add,show sp n (i+1)=sp n i++(List.range n).map fun y=>(i,y) by simp[sp,List.range_succ]]
   exact j9
 ·obtain⟨δ',rfl,⟨z7,z8,z9,rfl⟩,j9⟩:=hI
  rw[List.length_map,List.length_range,Nat.zero_add] at j9
  rw[hK];clear hK K
  have al:∀l:List D,(rd (o9 (.lst l)):DM Itn)=pure (.fix l):=fun l=>rfl
  have al':(rd (o9 (refs M.length n)):DM Itn)=pure (.fix ((List.range n).map fun x=>D.ref (M.length+x))):=rfl
  simp only[bR,bF,aO,al',aP,bc,List.map_nil,fL]
  refine Rn.bind (dY (gJ (rest:=[]) (R:=fun x=>.tup (row n ((g0.run (sp n n)).A x))) (by lia) (fun j hj=>?_))) fun p M8 ⟨e8,q8⟩=>?_
  ·simp
   exact Rn.rd (by show (aU (.ref (M.length+j)) M7).map _=_;simp only[aU,j9.js.row j hj];rfl) ⟨rfl,rfl⟩
  subst e8
  rw[q8]
  simp only[jc,au,qj]
  refine Rn.pure ⟨_,rfl,?_,j9.js.ex⟩
  unfold jn tZ
  rw[hg0]
theorem Bx{n:Nat}:∀p∈sp n n,p.1<n∧p.2<n:=by
 intro p hp
 unfold sp at hp
 obtain⟨x,hx,hp⟩:=List.mem_flatMap.mp hp
 obtain⟨y,hy,rfl⟩:=List.mem_map.mp hp
 exact⟨List.mem_range.mp hx,List.mem_range.mp hy⟩
theorem Ek{n x y:Nat}(hx:x<n)(hy:y<n):(x,y)∈sp n n:=
 List.mem_flatMap.mpr ⟨x,List.mem_range.mpr hx,List.mem_map.mpr ⟨y,List.mem_range.mpr hy,rfl⟩⟩
theorem Jb{n x:Nat}(c:Nat)(hx:x<n):S n (fun y=>if x=y∧x<n then c else 0)=c:=by
 have:S n (up (fun _=>0) x c)+0=S n (fun _=>0)+c:=wV (f:=fun _=>0) hx
 rw[jU (f:=fun _=>0) fun _ _=>rfl] at this
 have e:S n (fun y=>if x=y∧x<n then c else 0)=S n (up (fun _=>0) x c):=gm fun i _=>by
  unfold up
  by_cases k:i=x
  ·subst k;rw[if_pos ⟨rfl,hx⟩,if_pos rfl]
  ·rw[if_neg (fun z=>k z.1.symm),if_neg k]
 lia
theorem Ht{n y:Nat}(c:Nat->Nat)(hy:y<n):S n (fun x=>if x=y∧x<n then c x else 0)=c y:=by
 have e:S n (fun x=>if x=y∧x<n then c x else 0)=S n (up (fun _=>0) y (c y)):=gm fun i hi=>by
  unfold up
  by_cases k:i=y
  ·subst k;rw[if_pos ⟨rfl,hi⟩,if_pos rfl]
  ·rw[if_neg (fun z=>k z.1),if_neg k]
 have:S n (up (fun _=>0) y (c y))+0=S n (fun _=>0)+c y:=wV (f:=fun _=>0) hy
 rw[jU (f:=fun _=>0) fun _ _=>rfl] at this
 lia
structure Joins(n:Nat)(F T:Nat->Nat)(A:Nat->Nat->Nat):Prop where
 row:∀x,x<n->S n (A x)=F x
 col:∀y,y<n->S n (fun x=>A x y)=T y
theorem Joins.diag{n:Nat}{F T:Nat->Nat}{A:Nat->Nat->Nat}(h:Joins n F T A){x:Nat}(hx:x<n):A x x≤min (F x) (T x):=by
 have a:=jD (f:=A x) hx
 have b:=jD (f:=fun i=>A i x) hx
 rw[h.row x hx] at a
 rw[h.col x hx] at b
 have b:A x x≤T x:=b
 lia
noncomputable def parts(n:Nat)(A:Nat->Nat->Nat):Nat:=S n fun x=>S n (A x)-A x x
noncomputable def FJ(n:Nat)(F T:Nat->Nat):Nat:=S n fun x=>F x-T x
theorem Gh{n:Nat}{F T:Nat->Nat}(e:S n F=S n T):Joins n F T (tZ n F T).A∧∀x,x<n->(tZ n F T).A x x=min (F x) (T x):=by
 have ok0:G.Ok ⟨fun x y=>if x=y∧x<n then min (F x) (T x) else 0,fun x=>F x-min (F x) (T x),fun x=>T x-min (F x) (T x)⟩ n F T:=⟨fun x hx=>by
  show S n (fun y=>if x=y∧x<n then min (F x) (T x) else 0)+(F x-min (F x) (T x))=F x
  rw[Jb _ hx];lia,fun y hy=>by
  show S n (fun x=>if x=y∧x<n then min (F x) (T x) else 0)+(T y-min (F y) (T y))=T y
  rw[Ht (fun x=>min (F x) (T x)) hy];lia⟩
 have ok:=G.run_ok ok0 Bx
 obtain⟨_,_,h3,h4⟩:=G.run_le (sp n n) ⟨fun x y=>if x=y∧x<n then min (F x) (T x) else 0,fun x=>F x-min (F x) (T x),fun x=>T x-min (F x) (T x)⟩
 obtain⟨l0,w0⟩:=G.done ok e fun x y hx hy=>h3 (x,y) (Ek hx hy)
 have J:Joins n F T (tZ n F T).A:=⟨fun x hx=>by have:=ok.row x hx;rw[l0 x hx] at this;exact this,fun y hy=>by have:=ok.col y hy;rw[w0 y hy] at this;exact this⟩
 refine⟨J,fun x hx=>?_⟩
 have a:=J.diag hx
 have b:(if x=x∧x<n then min (F x) (T x) else 0)≤(tZ n F T).A x x:=h4 x x
 rw[if_pos ⟨rfl,hx⟩] at b
 lia
theorem xf{a b:List Nat}(h1:eZ a)(h2:eZ b)(s1:a.sum<2^28)(s2:b.sum<2^28):qX [nT a,nT b]=pure (.tup [nT (aR a b),nT (bD a b)]):=Jd h1 h2 (Dm s1 (by decide)) (Dm s2 (by decide))
noncomputable def tK:=aL 2 5 (mU wK)
theorem Dh{x y:Nat}(hx:0<x):y / Nat.gcd x y=LC x y / x:=by
 have h:=(Ay (y:=y) hx).2
 have hg:0<Nat.gcd x y:=Nat.gcd_pos_of_pos_left _ hx
 exact Nat.div_eq_of_eq_mul_right hg h.symm
theorem xP{a b:List Nat}(h1:eZ a)(h2:eZ b)(s1:a.sum<2^28)(s2:b.sum<2^28):tK [nT a,nT b]=pure (.tup [nT (aR a b),nT (bD a b)]):=by
 have a1:jV (nT a)=some (.fix (a.map nD)):=rfl
 have a2:jV (nT b)=some (.fix (b.map nD)):=rfl
 have h0:=h1.2.2
 have h0':=h2.2.2
 have hg:0<Nat.gcd a.sum b.sum:=Nat.gcd_pos_of_pos_left _ h0
 have hgl:=Nat.gcd_le_left b.sum h0
 have e1:(rd (iV (nD b.sum) (nD (Nat.gcd a.sum b.sum))):DM D)=pure (nD (LC a.sum b.sum / a.sum)):=by rw[←Dh h0];exact DQ hg (by lia)
 have e2:(rd (iV (nD a.sum) (nD (Nat.gcd a.sum b.sum))):DM D)=pure (nD (LC a.sum b.sum / b.sum)):=by rw[zL h0,←Dh h0',Nat.gcd_comm];exact DQ (by rw[Nat.gcd_comm];exact hg) (by rw[Nat.gcd_comm];lia)
 have mem:∀{l:List Nat}{n:Nat},n∈l->l.sum<2^28->n<2^64:=fun h h'=>by have:=qP h;lia
 have m2:∀x y:D,fY [x,y]=pure (.tup [x,y]):=fun x y=>dm (by simp)
 simp[tK,mU,a1,a2,Jr,e1,e2,aP,bc,m2]
 rw[pP (fun _=>true) (fun n=>n*(LC a.sum b.sum / a.sum)) (by have:=h1.2.1;lia) (fun _ _=>rfl) (fun n hn _=>?_)]
 rotate_left
 ·have e:(rd (gM (nD n) (nD (LC a.sum b.sum / a.sum))):DM D)=pure (nD (n*(LC a.sum b.sum / a.sum))):=Ea (mem hn s1)
  simp[e]
 rw[pP (fun _=>true) (fun n=>n*(LC a.sum b.sum / b.sum)) (by have:=h2.2.1;lia) (fun _ _=>rfl) (fun n hn _=>?_)]
 rotate_left
 ·have e:(rd (gM (nD n) (nD (LC a.sum b.sum / b.sum))):DM D)=pure (nD (n*(LC a.sum b.sum / b.sum))):=Ea (mem hn s2)
  simp[e]
 simp only[au,List.filter_eq_self.mpr (fun _ _=>rfl)]
 rfl
theorem n8 (h:Nat->D):∀ (n k:Nat),iG k ((List.range' k n).map h)=(List.range' k n).map fun j=>.tup [nD j,h j]
 |0,k=>rfl
 |n+1,k=>by
   rw[List.range'_succ,List.map_cons,List.map_cons]
   show D.tup [.int (k:Int),h k]::iG (k+1) _=_
   rw[n8 h n (k+1)];rfl
theorem vL {fe:ao->DM D}{rest:ao}{n:Nat}{h R:Nat->D}{x y:Option D} (hn:n≤1000) (hf:∀ j,j<n->fe (some (nD j)::some (h j)::rest)=pure (R j)) {β:Type}{k:ao×List D->DM β} (k':List D->DM β) (hk:∀ q,k q=k' q.2) :
  (dj (aZ (gT 2 (fu (gN 0) (fu (gN 1) qH))) (fun _=>pure true) (bh fe) ((List.range n).map fun j=>.tup [nD j,h j]) (x::y::rest) [])>>=k)=k' ((List.range n).map R):=by
 let f1:D->D:=fun d=>match d with | .tup [a,b]=>a | _=>.non
 let f2:D->D:=fun d=>match d with | .tup [a,b]=>b | _=>.non
 let e:D->D:=fun d=>match d with | .tup [.int i,_]=>R i.toNat | _=>.non
 obtain ⟨δ',q⟩:=sE (fg:=gT 2 (fu (gN 0) (fu (gN 1) qH))) (ft:=fun _=>pure true) (fe:=fe) (fun δ=>∃ x y,δ=x::y::rest) (fun d=>some (f1 d)::some (f2 d)::rest) (fun _=>true) e ((List.range n).map fun j=>.tup [nD j,h j]) (x::y::rest) [] ⟨x,y,rfl⟩ (by simp;lia)
  (fun d hd δ ⟨x,y,hδ⟩=>by
    obtain⟨j,_,rfl⟩:=List.mem_map.mp hd
    exact⟨by subst hδ;rfl,_,_,rfl⟩) (fun d _=>rfl) (fun d hd _=>by
    obtain⟨j,hj,rfl⟩:=List.mem_map.mp hd
    have:=hf j (List.mem_range.mp hj)
    show fe (some (nD j)::some (h j)::rest)=pure (R (j:Int).toNat)
    rw[Int.toNat_natCast];exact this)
 have m:(((List.range n).map fun j=>D.tup [nD j,h j]).filter fun _=>true).map e=(List.range n).map R:=by
  rw[List.filter_eq_self.mpr (fun _ _=>rfl),List.map_map]
  refine List.map_congr_left fun j _=>?_
  show R (j:Int).toNat=R j
  rw[Int.toNat_natCast]
 rw[q,m]
 simp[hk]
theorem Ac(n:Nat)(g:Nat->Nat):(rd (lH [.tup (row n g)]):DM D)=pure (nD (S n g)):=by
 rw[←pL]
 exact Ec _
noncomputable def wN:=aL 1 1 pq
theorem HQ{n:Nat}{A:Nat->Nat->Nat}(hn:n≤1000):wN [jn n A]=pure (nD (parts n A)):=by
 have en:tV [jn n A]=some (.fix ((List.range n).map fun j=>.tup [nD j,.tup (row n (A j))])):=by
  show some (Itn.fix (iG 0 ((List.range n).map fun x=>D.tup (row n (A x)))))=_
  rw[List.range_eq_range',n8]
 simp[wN,pq,aP,bc,en]
 rw[vL (R:=fun x=>nD (S n (A x)-A x x)) hn (fun j hj=>?_) (fun l=>rd (lH [.lst l])) (fun _=>rfl)]
 ·have:((List.range n).map fun x=>nD (S n (A x)-A x x))=((List.range n).map fun x=>S n (A x)-A x x).map nD:=by rw[List.map_map];rfl
  rw[this,yG,pL];rfl
 ·simp[Ac,pX hj,je (jD hj)]
noncomputable def fn(l:List Nat):Nat->Nat:=fun i=>l.getD i 0
theorem mW{l:List Nat}{n:Nat}(h:l.length=n):nT l=.tup (row n (fn l)):=by
 unfold nT row
 congr 2
 apply List.ext_getElem?
 intro k
 by_cases hk:k<n
 ·rw[List.getElem?_map,List.getElem?_range hk,List.getElem?_eq_getElem (by lia)]
  show _=some (l.getD k 0)
  rw[List.getD_eq_getElem?_getD,List.getElem?_eq_getElem (by lia)];rfl
 ·rw[List.getElem?_eq_none (by lia),List.getElem?_eq_none (by simp;lia)]
noncomputable def rm:=aL 2 4 (nU gF qX BR zp)
noncomputable def more(f s:List Nat):List Nat:=(List.range f.length).filter fun i=>decide (s.getD i 0<f.getD i 0)
theorem Kg{a b:List Nat}{n:Nat}{M:Mo}(h1:eZ a)(h2:eZ b)(ha:a.length=n)(hb:b.length=n)(s1:a.sum<2^28)(s2:b.sum<2^28) :
  Rn (rm [nT a,nT b]) M fun d M'=>d=.tup [nT (more (aR a b) (bD a b)),jn n (tZ n (fn (aR a b)) (fn (bD a b))).A]∧Ex M M':=by
 have l1:(aR a b).length=n:=by simp[aR,ha]
 have l2:(bD a b).length=n:=by simp[bD,hb]
 have n25:n≤25:=by have:=h1.2.1;lia
 have p:=Kf (f:=aR a b) (s:=bD a b) (by lia) (by lia)
 have pm:zp [nT (aR a b),nT (bD a b)]=pure (nT (more (aR a b) (bD a b))):=p
 have lj:=JP (F:=fn (aR a b)) (T:=fn (bD a b)) (M:=M) n25
 rw[←mW l1,←mW l2] at lj
 unfold rm nU oA;dsimp only
 refine Rn.call rfl ?_
 simp[yJ h1 h2 (by lia),xf h1 h2 s1 s2,pm]
 refine Rn.bind lj fun d M1 ⟨e,ex⟩=>?_
 subst e
 rw[dm (by simp),au]
 exact Rn.pure ⟨_,rfl,rfl,ex⟩
noncomputable def BL:=aL 3 5 (ph tK)
theorem Jo{a b ps:List Nat}(h1:eZ a)(h2:eZ b)(hl:a.length=b.length)(s1:a.sum<2^28)(s2:b.sum<2^28)(h:ps.length≤1000)(hp:∀i∈ps,i<a.length):BL [nT a,nT b,nT ps]=pure (.int (uf (aR a b) (bD a b) ps)):=by
 have at_:jV (nT ps)=some (.fix (ps.map nD)):=rfl
 have l1:(aR a b).length=a.length:=by simp[aR]
 have l2:(bD a b).length=a.length:=by simp[bD,hl]
 simp[BL,ph,xP h1 h2 s1 s2,at_,aP,bc]
 revert l1 l2
 generalize aR a b=f
 generalize bD a b=s
 intro l1 l2
 rw[tQ (fun _=>true) (fun d=>match d with | .int i=>.int (((f.getD i.toNat 0:Nat):Int)-((s.getD i.toNat 0:Nat):Int)) | _=>.non) (by simp;lia) (fun _ _=>rfl) (fun d hd _=>?_)]
 rotate_left
 ·obtain⟨i,hi,rfl⟩:=List.mem_map.mp hd
  have hi':=hp i hi
  have g1:(rd (cF (nT f) (nD i)):DM D)=pure (nD (f.getD i 0)):=oF (by rw[List.getD_eq_getElem?_getD,List.getElem?_eq_getElem (by lia)];rfl)
  have g2:(rd (cF (nT s) (nD i)):DM D)=pure (nD (s.getD i 0)):=oF (by rw[List.getD_eq_getElem?_getD,List.getElem?_eq_getElem (by lia)];rfl)
  simp only[bR,g1,g2]
  simp[nD]
 have e:((ps.map nD).filter fun _=>true)=ps.map nD:=List.filter_eq_self.mpr fun _ _=>rfl
 simp only[au,e]
 refine bH fun M=>?_
 rw[List.map_map]
 have:(ps.map ((fun d=>match d with | D.int i=>D.int (((f.getD i.toNat 0:Nat):Int)-((s.getD i.toNat 0:Nat):Int)) | _=>D.non) ∘ nD))=(ps.map fun i=>((f.getD i 0:Nat):Int)-((s.getD i 0:Nat):Int)).map D.int:=by
  rw[List.map_map]
  exact List.map_congr_left fun n _=>by simp[nD]
 show (intsOf _).map _=_
 rw[this,nY];rfl
noncomputable def bC:Nat->List (List Nat)
 |0=>[[]]
 |k+1=>bC k++(bC k).map (·++ [k])
theorem zg (p:Nat->Bool):∀ n:Nat,(List.range n).filter p∈bC n
 |0=>by simp[bC]
 | n + 1=>by
   have ih:=zg p n
   rw[List.range_succ,List.filter_append]
   unfold bC
   by_cases h:p n=true
   ·refine List.mem_append_right _ (List.mem_map.mpr ⟨_,ih,?_⟩)
    simp[h]
   ·refine List.mem_append_left _ ?_
    simp[h];exact ih
theorem Gs(f s t:List Nat)(k:Nat):uf f s (t++[k])=uf f s t+(((fn f k:Nat):Int)-((fn s k:Nat):Int)):=by
 unfold uf fn
 rw[List.map_append,List.sum_append];simp
theorem Dw {f s:List Nat}:∀ {n:Nat}{t:List Nat},t∈bC n->uf f s t≤((FJ n (fn f) (fn s):Nat):Int)
 |0,t,h=>by
   simp[bC] at h
   subst h
   exact Int.le_refl _
 | n + 1,t,h=>by
   unfold bC at h
   have e:FJ (n+1) (fn f) (fn s)=FJ n (fn f) (fn s)+(fn f n-fn s n):=rfl
   rcases List.mem_append.mp h with h | h
   ·have:=Dw (f:=f) (s:=s) h
    rw[e];lia
   ·obtain⟨u,hu,rfl⟩:=List.mem_map.mp h
    have:=Dw (f:=f) (s:=s) hu
    rw[Gs,e];lia
theorem qO:∀ {n:Nat}{t:List Nat},t∈bC n->t.length≤n∧∀ i∈t,i<n
 |0,t,h=>by
   simp[bC] at h
   subst h
   simp
 | n + 1,t,h=>by
   unfold bC at h
   rcases List.mem_append.mp h with h | h
   ·obtain⟨a,b⟩:=qO h
    exact⟨by lia,fun i hi=>Nat.lt_succ_of_lt (b i hi)⟩
   ·obtain⟨u,hu,rfl⟩:=List.mem_map.mp h
    obtain⟨a,b⟩:=qO hu
    refine⟨by simp;lia,fun i hi=>?_⟩
    rcases List.mem_append.mp hi with k | k
    ·exact Nat.lt_succ_of_lt (b i k)
    ·simp at k;lia
theorem sW:∀ n:Nat,(bC n).length=2 ^ n
 |0=>rfl
 |n+1=>by
   unfold bC
   rw[List.length_append,List.length_map,sW n,Nat.pow_succ];lia
noncomputable def Ce:=aL 1 3 rB
theorem Bm(n:Nat):fY [nD n]=pure (nT [n]):=dm (by simp)
theorem DK{x y:List Nat}(h:x.length+y.length≤1000000):(rd (cg (nT x) (nT y)):DM D)=pure (nT (x++y)):=bH fun M=>by
 show vm (x.map nD++y.map nD)=_
 have:dJ (x.map nD++y.map nD)=true:=by unfold dJ;exact decide_eq_true (by show _≤2^24;simp;lia)
 unfold vm
 rw[if_pos this,←List.map_append];rfl
theorem nA{x y:List D}(h:x.length+y.length≤1000000):(rd (cg (.lst x) (.lst y)):DM D)=pure (.lst (x++y)):=bH fun M=>by
 show Gk (x++y)=_
 have:dJ (x++y)=true:=by unfold dJ;exact decide_eq_true (by show _≤2^24;simp;lia)
 unfold Gk
 rw[if_pos this]
noncomputable def Nf(M0:Mo)(w:Nat)(i:Nat)(δ:ao)(M:Mo):Prop:=(∃z,δ=[some (nD w),some (.lst ((bC i).map nT)),z])∧M=M0
theorem K3 {w:Nat}{M:Mo} (hw:w≤10):Rn (Ce [nD w]) M fun d M'=>d=.lst ((bC w).map nT)∧M'=M:=by
 have rg:fU [nD w]=some (.fix ((List.range w).map nD)):=gW (by lia)
 have t0:fY []=pure (nT []):=dm (by simp)
 have l0:dN [nT []]=pure (.lst ((bC 0).map nT)):=cO (by simp)
 have al:∀l:List D,(rd (o9 (.lst l)):DM Itn)=pure (.fix l):=fun l=>rfl
 unfold Ce rB mD;dsimp only
 refine Rn.call rfl ?_
 simp[t0,l0,rg,my]
 refine Rn.bind (cu (Nf M w) _ 0 _ _ ⟨⟨none,rfl⟩,rfl⟩ (fun j d δ M1 hj hI=>?_)) (fun r M1 hI=>?_)
 ·obtain ⟨⟨z,rfl⟩,rfl⟩:=hI
  have hj':j<w:=by
   have:=(List.getElem?_eq_some_iff.mp hj).1
   simpa using this
  have ed:d=nD j:=by
   rw[List.getElem?_map,List.getElem?_range hj'] at hj
   exact (Option.some.inj hj).symm
  subst ed
  rw[Nat.zero_add]
  have len:(bC j).length≤1024:=by
   rw[sW]
   exact Nat.le_trans (Nat.pow_le_pow_right (by decide) (by lia:j≤10)) (by decide)
  simp[al,aP,bc,Bm]
  rw[tQ (fun _=>true) (fun d=>match d with | .tup l=>.tup (l++[nD j]) | _=>.non) (by simp;lia) (fun _ _=>rfl) (fun d hd _=>?_)]
  rotate_left
  ·obtain⟨t,ht,rfl⟩:=List.mem_map.mp hd
   have:=(qO ht).1
   simp[Bm,DK (x:=t) (y:=[j]) (by simp;lia)]
   simp[nT]
  rw[List.filter_eq_self.mpr (fun _ _=>rfl),au,nA (by simp;lia),au]
  have q:(bC j).map nT++((bC j).map nT).map (fun d=>match d with | .tup l=>.tup (l++[nD j]) | _=>.non)=(bC (j+1)).map nT:=by
   show _=(bC j++(bC j).map (·++ [j])).map nT
   have h2:((bC j).map nT).map (fun d=>match d with | D.tup l=>D.tup (l++[nD j]) | _=>D.non)=((bC j).map (·++ [j])).map nT:=by
    rw[List.map_map,List.map_map]
    refine List.map_congr_left fun t _=>?_
    simp[nT]
   rw[List.map_append,h2]
  refine Rn.pure ⟨_,rfl,⟨some (nD j),?_⟩,rfl⟩
  show [some (nD w),some (D.lst ((bC j).map nT++((bC j).map nT).map (fun d=>match d with | .tup l=>.tup (l++[nD j]) | _=>.non))),some (nD j)]=_
  rw[q]
 ·obtain⟨δ',rfl,⟨z,rfl⟩,rfl⟩:=hI
  simp
  exact Rn.pure ⟨_,rfl,rfl,rfl⟩
structure JH(M0:Mo)(n p:Nat)(g:G)(M:Mo):Prop where
 sb:Sb p M0 M
 pot:cC p M
 left:M[M0.length]?=some (.lst (row n g.L))
 want:M[M0.length+1]?=some (.lst (row n g.W))
 row:∀x,x<n->M[M0.length+2+x]?=some (.lst (row n (g.A x)))
theorem JH.setA (h:JH M0 n p g M) (hp:p<M0.length) (hx:x<n) (hy:y<n):∃ M',iR (.ref (M0.length + 2 + x)) (nD y) (nD v) M=some (.ok (),M')∧JH M0 n p ⟨eG g.A x y v,g.L,g.W⟩ M':=by
 have hr:=h.row x hx
 have e:=fM (v:=nD v) hr (i:=y) (by simpa[K.row] using hy)
 rw[jP hy] at e
 refine⟨_,e,Sb.new (p:=p) (.inr h.sb.le) (by lia) Sb.set h.sb,h.pot.sb (q:=M0.length+2+x) Sb.set (by lia),?_,?_,fun i hi=>?_⟩
 ·rw[List.getElem?_set_ne (by lia)];exact h.left
 ·rw[List.getElem?_set_ne (by lia)];exact h.want
 ·by_cases e':i=x
  ·subst e'
   rw[List.getElem?_set_self (List.getElem?_eq_some_iff.mp hr).1]
   simp[eG]
  ·rw[List.getElem?_set_ne (by lia),h.row i hi]
   simp[eG,e']
theorem JH.setL(h:JH M0 n p g M)(hp:p<M0.length)(hx:x<n):∃M',iR (.ref M0.length) (nD x) (nD v) M=some (.ok (),M')∧JH M0 n p ⟨g.A,up g.L x v,g.W⟩ M':=by
 have e:=fM (v:=nD v) h.left (i:=x) (by simpa[K.row] using hx)
 rw[jP hx] at e
 refine⟨_,e,Sb.new (p:=p) (.inr h.sb.le) (Nat.le_refl _) Sb.set h.sb,h.pot.sb (q:=M0.length) Sb.set (by lia),?_,?_,fun i hi=>?_⟩
 ·rw[List.getElem?_set_self (List.getElem?_eq_some_iff.mp h.left).1]
 ·rw[List.getElem?_set_ne (by lia)];exact h.want
 ·rw[List.getElem?_set_ne (by lia)];exact h.row i hi
theorem JH.setW(h:JH M0 n p g M)(hp:p<M0.length)(hy:y<n):∃M',iR (.ref (M0.length+1)) (nD y) (nD v) M=some (.ok (),M')∧JH M0 n p ⟨g.A,g.L,up g.W y v⟩ M':=by
 have e:=fM (v:=nD v) h.want (i:=y) (by simpa[K.row] using hy)
 rw[jP hy] at e
 refine⟨_,e,Sb.new (p:=p) (.inr h.sb.le) (by lia) Sb.set h.sb,h.pot.sb (q:=M0.length+1) Sb.set (by lia),?_,?_,fun i hi=>?_⟩
 ·rw[List.getElem?_set_ne (by lia)];exact h.left
 ·rw[List.getElem?_set_self (List.getElem?_eq_some_iff.mp h.want).1]
 ·rw[List.getElem?_set_ne (by lia)];exact h.row i hi
theorem yL {x y:Nat}:∀ (l:List (Nat×Nat)) (g:G),(x,y)∉l->(g.run l).A x y=g.A x y
 |[],g,_=>rfl
 | q::l,g,h=>by
   have h1:(x,y)≠q:=fun z=>h (by simp[z])
   have h2:(x,y)∉l:=fun z=>h (by simp[z])
   show ((g.step q.1 q.2).run l).A x y=_
   rw[yL l _ h2]
   show eG g.A q.1 q.2 _ x y=_
   unfold eG
   by_cases e:x=q.1
   ·rw[if_pos e]
    have:y≠q.2:=fun z=>h1 (by rw[e,z])
    rw[ir this,←e]
   ·rw[if_neg e]
noncomputable def nj(q:Nat×Nat):D:=.tup [nD q.1,nD q.2]
noncomputable def uE:D->Nat×Nat:=fun d=>match d with | .tup [.int i,.int j]=>(i.toNat,j.toNat) | _=>(0,0)
theorem zy(q:Nat×Nat):uE (nj q)=q:=by simp[uE,nj,nD]
theorem Ik {l:List D}{s:List (Nat×Nat)} (h:l.Perm (s.map nj)):∃ s':List (Nat×Nat),s'.Perm s∧l=s'.map nj:=by
 refine⟨l.map uE,?_,?_⟩
 ·have:=h.map uE
  rw[List.map_map] at this
  have e:s.map (uE ∘ nj)=s:=by
   conv=>rhs;rw[←List.map_id s]
   exact List.map_congr_left fun q _=>zy q
  rwa [e] at this
 ·rw[List.map_map]
  conv=>lhs;rw[←List.map_id l]
  refine List.map_congr_left fun d hd=>?_
  obtain⟨q,_,rfl⟩:=List.mem_map.mp (h.mem_iff.mp hd)
  show nj q=nj (uE (nj q))
  rw[zy]
theorem yR:∀ (n i:Nat),(sp n i).Nodup
 |n,0=>by simp[sp]
 | n,i + 1=>by
   have e:sp n (i+1)=sp n i++(List.range n).map fun y=>(i,y):=by simp[sp,List.range_succ]
   rw[e,List.nodup_append]
   refine⟨yR n i,?_,fun a ha b hb z=>?_⟩
   ·refine List.pairwise_map.mpr (List.Pairwise.imp (fun h z=>h (Prod.mk.inj z).2) List.nodup_range)
   ·subst z
    obtain⟨x,hx,h1⟩:=List.mem_flatMap.mp ha
    obtain⟨y,_,h2⟩:=List.mem_map.mp h1
    obtain⟨y',_,h3⟩:=List.mem_map.mp hb
    rw[←h2] at h3
    have:=(Prod.mk.inj h3).1
    have:=List.mem_range.mp hx
    lia
theorem vD{n:Nat}{F T:Nat->Nat}{s:List (Nat×Nat)}(h:s.Perm (sp n n))(e:S n F=S n T):Joins n F T (G.run ⟨fun _ _=>0,F,T⟩ s).A:=by
 have z:S n (fun _=>0)=0:=jU fun _ _=>rfl
 have ok0:G.Ok ⟨fun _ _=>0,F,T⟩ n F T:=⟨fun x hx=>by show S n (fun _=>0)+F x=F x;lia,fun y hy=>by show S n (fun _=>0)+T y=T y;lia⟩
 have ok:=G.run_ok ok0 (sp:=s) fun q hq=>Bx q (h.mem_iff.mp hq)
 obtain⟨_,_,h3,_⟩:=G.run_le s ⟨fun _ _=>0,F,T⟩
 obtain⟨l0,w0⟩:=G.done ok e fun x y hx hy=>h3 (x,y) (h.mem_iff.mpr (Ek hx hy))
 exact⟨fun x hx=>by have:=ok.row x hx;rw[l0 x hx] at this;exact this,fun y hy=>by have:=ok.col y hy;rw[w0 y hy] at this;exact this⟩
noncomputable def Ja(M0:Mo)(n:Nat)(rest:ao)(i:Nat)(δ:ao)(l:List D)(M:Mo):Prop:=(∃z,δ=z::rest)∧l=(List.range i).map (fun x=>D.ref (M0.length+x))∧M.length=M0.length+i∧Ex M0 M∧∀x,x<i->M[M0.length+x]?=some (.lst (vy n))
theorem GJ {n q:Nat}{M:Mo}{L:List D} (hn:n≤25) (hq:M[q]?=some (.lst L)) (hL:L.length=n) {ds:List D} (hd:ds.length=n) {x:Option D}:Rn (aZ (gN 0) (fun _=>pure true) (bh fun δ=>opt δ[1]?.join >>= fun y=>rd (dW [y]) >>= fun y=>uP (.lst [.int 0]) y) ds (x::[some (.ref q)]) []) M fun p M'=>Ja M n [some (.ref q)] n p.1 p.2 M':=by
 have:=dM (fg:=gN 0) (ft:=fun _=>pure true) (fb:=bh fun δ=>opt δ[1]?.join>>=fun y=>rd (dW [y])>>=fun y=>uP (.lst [.int 0]) y) (Ja M n [some (.ref q)]) ds 0 (x::[some (.ref q)]) [] M ⟨⟨x,rfl⟩,rfl,rfl,⟨Nat.le_refl _,fun _ _=>rfl⟩,fun x h=>by lia⟩ (fun j d δ l M1 hj hI=>?_)
 ·rw[hd,Nat.zero_add] at this;exact this
 ·obtain ⟨⟨z,rfl⟩,rfl,hl,he,hr⟩:=hI
  have hj':j<n:=by
   have:=(List.getElem?_eq_some_iff.mp hj).1
   lia
  have lt:j<sizeLine:=by show j<2^24;lia
  have hq1:M1[q]?=some (.lst L):=(he.keep q (List.getElem?_eq_some_iff.mp hq).1).trans hq
  simp[bh]
  refine Rn.bindRd (nD n) (by show (aU (.ref q) M1).map _=_;simp only[aU,hq1];simp[hL,nD]) ?_
  refine xT (by lia) ?_
  simp[lt]
  refine Rn.pure ⟨⟨_,rfl⟩,?_,by simp[hl];lia,⟨by simp;have:=he.le;lia,fun q hq=>by rw[List.getElem?_append_left (by lia)];exact he.keep q hq⟩,fun x hx=>?_⟩
  ·rw[List.range_succ,List.map_append,hl];simp
  ·by_cases e:x=j
   ·subst e
    rw[show M.length+x=M1.length by lia,List.getElem?_concat_length];simp[vy]
   ·rw[List.getElem?_append_left (by lia)]
    exact hr x (by lia)
noncomputable def BP:=aL 3 12 (mV tK BZ)
theorem zZ(n i:Nat):sp n (i+1)=sp n i++(List.range n).map fun y=>(i,y):=by simp[sp,List.range_succ]
theorem yQ(n:Nat):∀i,(sp n i).length=i*n
 |0=>by simp[sp]
 |i+1=>by rw[zZ,List.length_append,yQ n i,List.length_map,List.length_range,Nat.succ_mul]
noncomputable def Og(M0:Mo)(n:Nat)(pre:ao)(i:Nat)(δ:ao)(M:Mo):Prop:=(∃z,δ=pre++[some (.lst ((sp n i).map nj)),z,none,none])∧M=M0
noncomputable def Oh(M0:Mo)(n p:Nat)(g:G)(s:List (Nat×Nat))(pre:ao)(i:Nat)(δ:ao)(M:Mo):Prop:=(∃z9 z10 z11,δ=pre++[z9,z10,z11])∧JH M0 n p (g.run (s.take i)) M
theorem De {a b:List Nat}{n p:Nat}{M:Mo} (h1:eZ a) (h2:eZ b) (ha:a.length=n) (hb:b.length=n) (s1:a.sum<2 ^ 28) (s2:b.sum<2 ^ 28) (hp:cC p M) :
  Rn (BP [.ref p,nT a,nT b]) M fun d M'=>∃s:List (Nat×Nat),s.Perm (sp n n)∧d=jn n (G.run ⟨fun _ _=>0,fn (aR a b),fn (bD a b)⟩ s).A∧cC p M'∧Sb p M M':=by
 have l1:(aR a b).length=n:=by simp[aR,ha]
 have l2:(bD a b).length=n:=by simp[bD,hb]
 have n25:n≤25:=by have:=h1.2.1;lia
 have lb:=xP h1 h2 s1 s2
 have hpl:=hp.lt
 revert l1 l2 lb
 generalize aR a b=f
 generalize bD a b=t
 intro l1 l2 lb
 have ls:∀l M,eY [nT l] M=some (l.map nD):=fun l M=>rfl
 have e1:f.map nD=row n (fn f):=D.tup.inj (mW l1)
 have e2:t.map nD=row n (fn t):=D.tup.inj (mW l2)
 have m0:dN [.int 0]=pure (.lst [.int 0]):=cO (by simp)
 have rg:fU [nD n]=some (.fix ((List.range n).map nD)):=gW (by lia)
 have m2:∀x y:D,fY [x,y]=pure (.tup [x,y]):=fun x y=>dm (by simp)
 unfold BP mV iI;dsimp only
 refine Rn.call rfl ?_
 refine aK fun K hK=>?_
 simp[lb]
 rw[hK];clear hK K
 refine aK fun K hK=>?_
 simp only[bR,bF,aO]
 refine Rn.bindRd _ (ls f M) ?_
 refine Rn.dH (by simp;lia) ?_
 refine Rn.bindRd _ (ls t _) ?_
 refine Rn.dH (by simp;lia) ?_
 simp[m2]
 rw[hK];clear hK K
 rw[e1,e2]
 have q1:(M++[DO.lst (row n (fn f)),DO.lst (row n (fn t))])[M.length]?=some (.lst (row n (fn f))):=by simp
 have q2:(M++[DO.lst (row n (fn f)),DO.lst (row n (fn t))])[M.length+1]?=some (.lst (row n (fn t))):=by simp
 have hp1:cC p (M++[DO.lst (row n (fn f)),DO.lst (row n (fn t))]):=by
  obtain⟨v,e⟩:=hp
  exact⟨v,by rw[List.getElem?_append_left hpl];exact e⟩
 have sb1:Sb p M (M++[DO.lst (row n (fn f)),DO.lst (row n (fn t))]):=⟨by simp,fun q _ hl=>List.getElem?_append_left hl⟩
 have pY:(M++[DO.lst (row n (fn f)),DO.lst (row n (fn t))]).length=M.length+2:=by simp
 revert q1 q2 hp1 sb1 pY
 generalize (M++[DO.lst (row n (fn f)),DO.lst (row n (fn t))])=M1
 intro q1 q2 hp1 sb1 pY
 have at_:jV (nT f)=some (.fix (f.map nD)):=rfl
 refine aK fun K hK=>?_
 simp[at_,m0,aP,bc]
 refine Rn.bind (dY (GJ (L:=row n (fn f)) (q:=M.length) n25 q1 (by simp[row]) (by simp[l1]))) fun pr M2 ⟨_,er,l2',x2,r2⟩=>?_
 rw[er,hK];clear hK K
 have jh0:JH M n p ⟨fun _ _=>0,fn f,fn t⟩ M2:=by
  refine⟨⟨by have:=x2.le;lia,fun q hq hl=>by rw[x2.keep q (by lia)];exact sb1.keep q hq hl⟩,?_,?_,?_,fun x hx=>?_⟩
  ·obtain⟨v,e⟩:=hp1
   exact⟨v,by rw[x2.keep p (by lia)];exact e⟩
  ·rw[x2.keep _ (by lia)];exact q1
  ·rw[x2.keep _ (by lia)];exact q2
  ·rw[←yK,←r2 x hx,pY]
 rw[pY]
 clear l2' x2 r2 q1 q2 hp1 sb1 pY
 have ml:dN []=pure (.lst []):=cO (by simp)
 refine aK fun K hK=>?_
 simp[ml]
 rw[hK];clear hK K
 -- the spots
 refine aK fun K hK=>?_
 have lnL:∀M3,M3=M2->dW [.ref M.length] M3=some (nD n):=fun M3 e=>by
  subst e
  show (aU (.ref M.length) M3).map _=_
  simp only[aU,jh0.left];simp[row,nD]
 simp only[bR,bF,aO]
 refine Rn.bindRd _ (lnL M2 rfl) ?_
 simp only[au,rg,gU,my]
 refine Rn.bind (cu (Og M2 n [some (.ref p),some (nT a),some (nT b),some (nT f),some (nT t),some (.ref M.length),some (.ref (M.length+1)),some (refs (M.length+2) n)]) _ 0 _ _ ⟨⟨none,rfl⟩,rfl⟩ (fun j d δ M3 hj hI=>?_)) (fun r M3 hI=>?_)
 ·obtain⟨⟨z,rfl⟩,rfl⟩:=hI
  have hj':j<n:=by
   have:=(List.getElem?_eq_some_iff.mp hj).1
   simpa using this
  have ed:d=nD j:=by
   rw[List.getElem?_map,List.getElem?_range hj'] at hj
   exact (Option.some.inj hj).symm
  subst ed
  rw[Nat.zero_add]
  have splen:(sp n j).length≤625:=by rw[yQ];exact Nat.mul_le_mul (by lia:j≤25) n25
  simp only[vV,bR,List.cons_append,List.nil_append,lu,bF,aO]
  refine Rn.bindRd _ (lnL M3 rfl) ?_
  simp only[bR,rg,aP,bc,fL,List.map_cons,List.map_nil,List.replicate_succ,List.replicate_zero,List.cons_append,List.nil_append]
  refine Rn.bind (dY (gJ (rest:=[some (nD j)]) (hd:=nD) (R:=fun y=>nj (j,y)) (by lia) (fun y hy=>?_))) fun pr M4 ⟨e4,q4⟩=>?_
  ·simp[m2]
   exact Rn.pure ⟨rfl,rfl⟩
  subst e4
  rw[q4]
  simp only[jc,au]
  rw[nA (by simp;lia),au]
  refine Rn.pure ⟨_,rfl,⟨some (nD j),?_⟩,rfl⟩
  rw[zZ,List.map_append,List.map_map];rfl
 obtain⟨δ',rfl,⟨z,rfl⟩,rfl⟩:=hI
 rw[hK];clear hK K
 rw[List.length_map,List.length_range,Nat.zero_add]
 have splen:(sp n n).length≤625:=by rw[yQ];exact Nat.mul_le_mul n25 n25
 -- mixed
 refine aK fun K hK=>?_
 simp only[bR,List.cons_append,List.nil_append,bF,aO]
 refine Rn.bind (JT jh0.pot (by simp;lia)) fun d M4 ⟨ml4,ed4,pm,hp4,sb4⟩=>?_
 subst ed4
 obtain⟨s,hs,el⟩:=Ik pm
 subst el
 have nd:s.Nodup:=hs.nodup_iff.mpr (yR n n)
 have lt0:∀q o,M3[q]?=some o->q≠p->M4[q]?=some o:=fun q o e hq=>sb4.at hq e
 have jh4:JH M n p ⟨fun _ _=>0,fn f,fn t⟩ M4:=⟨jh0.sb.trans sb4,hp4,lt0 _ _ jh0.left (by lia),lt0 _ _ jh0.want (by lia),fun x hx=>lt0 _ _ (jh0.row x hx) (by lia)⟩
 have al:∀l:List D,(rd (o9 (.lst l)):DM Itn)=pure (.fix l):=fun l=>rfl
 simp only[al,au,my]
 refine Rn.bind (cu (Oh M n p ⟨fun _ _=>0,fn f,fn t⟩ s [some (.ref p),some (nT a),some (nT b),some (nT f),some (nT t),some (.ref M.length),some (.ref (M.length+1)),some (refs (M.length+2) n),some (.lst ((sp n n).map nj))]) _ 0 _ _ ⟨⟨_,_,_,rfl⟩,jh4⟩ (fun j d δ M5 hj hI=>?_)) (fun r M5 hI=>?_)
 ·obtain⟨⟨z9,z10,z11,rfl⟩,j5⟩:=hI
  have hj':j<s.length:=by
   have:=(List.getElem?_eq_some_iff.mp hj).1
   simpa using this
  obtain⟨⟨x,y⟩,hxy,ed⟩:∃q,s[j]?=some q∧d=nj q:=by
   rw[List.getElem?_map] at hj
   obtain⟨q,e1,e2⟩:=Option.map_eq_some_iff.mp hj
   exact⟨q,e1,e2.symm⟩
  subst ed
  obtain⟨hx,hy⟩:=Bx (x,y) (hs.mem_iff.mp (List.mem_of_getElem? hxy))
  have hx:x<n:=hx
  have hy:y<n:=hy
  rw[Nat.zero_add] at j5 ⊢
  have tk:s.take (j+1)=s.take j++[(x,y)]:=by rw[List.take_succ,hxy];rfl
  have A0:((⟨fun _ _=>0,fn f,fn t⟩:G).run (s.take j)).A x y=0:=yL _ _ (fun z=>by
   obtain⟨i,hi,e⟩:=List.mem_take_iff_getElem.mp z
   have hj2:=List.getElem?_eq_some_iff.mp hxy
   exact List.pairwise_iff_getElem.mp nd i j (by lia) hj' (by lia) (e.trans hj2.2.symm))
  generalize hg:(⟨fun _ _=>0,fn f,fn t⟩:G).run (s.take j)=g at j5 A0
  have gt2:∀δ:ao,gT 2 (fu (gN 9) (fu (gN 10) qH)) (nj (x,y)) δ=pure ((δ.set 9 (some (nD x))).set 10 (some (nD y))):=fun δ=>rfl
  rw[gt2,au]
  obtain⟨N1,t1,k1⟩:=j5.setA (v:=min (g.L x) (g.W y)) hpl hx hy
  obtain⟨N2,t2,k2⟩:=k1.setL (v:=g.L x-min (g.L x) (g.W y)) hpl hx
  obtain⟨N3,t3,k3⟩:=k2.setW (v:=g.W y-min (g.L x) (g.W y)) hpl hy
  refine aK fun K hK=>?_
  simp only[vV,bR,List.cons_append,List.nil_append,bF,aO]
  refine Rn.bindRd _ (fX j5.left (fD hx)) ?_
  refine Rn.bindRd _ (fX j5.want (fD hy)) ?_
  rw[yE,au,hK];clear hK K
  refine aK fun K hK=>?_
  simp only[vV,bR,bF,aO,gB hx]
  refine Rn.run t1 ?_
  rw[hK];clear hK K
  refine aK fun K hK=>?_
  simp only[vV,bR,bF,aO]
  refine Rn.bindRd _ (fX k1.left (fD hx)) ?_
  rw[je (Nat.min_le_left _ _),au]
  refine Rn.run t2 ?_
  rw[hK];clear hK K
  simp only[vV,bR,bF,aO]
  refine Rn.bindRd _ (fX k2.want (fD hy)) ?_
  rw[je (Nat.min_le_right _ _),au]
  refine Rn.run t3 ?_
  refine Rn.pure ⟨_,rfl,⟨_,_,_,rfl⟩,?_⟩
  rw[tk,yM,hg]
  have:g.step x y=⟨eG g.A x y (min (g.L x) (g.W y)),up g.L x (g.L x-min (g.L x) (g.W y)),up g.W y (g.W y-min (g.L x) (g.W y))⟩:=by
   unfold G.step
   rw[A0,Nat.zero_add]
  rw[this]
  exact k3
 obtain⟨δ',rfl,⟨z9,z10,z11,rfl⟩,j5⟩:=hI
 rw[hK];clear hK K
 rw[List.length_map,Nat.zero_add,List.take_length] at j5
 have al':(rd (o9 (refs (M.length+2) n)):DM Itn)=pure (.fix ((List.range n).map fun x=>D.ref (M.length+2+x))):=rfl
 simp only[bR,List.cons_append,List.nil_append,bF,aO,al',aP,bc,List.map_nil,fL]
 refine Rn.bind (dY (gJ (rest:=[]) (R:=fun x=>.tup (row n (((⟨fun _ _=>0,fn f,fn t⟩:G).run s).A x))) (by lia) (fun j hj=>?_))) fun pr M8 ⟨e8,q8⟩=>?_
 ·simp
  exact Rn.rd (by show (aU (.ref (M.length+2+j)) M5).map _=_;simp only[aU,j5.row j hj];rfl) ⟨rfl,rfl⟩
 subst e8
 rw[q8]
 simp only[jc,au,qj]
 exact Rn.pure ⟨_,rfl,s,hs,rfl,j5.pot,j5.sb⟩
end K
set_option exponentiation.threshold 2000
namespace K
open PySem L2 L3 N10
theorem iz{f g:ao->DM Fl}{δ:ao}{M:Mo}{Q:Fl->Mo->Prop}(h:∀K:Fl->DM Fl,(∀δ',K (.nx δ')=g δ')->(∀d,K (.rt d)=Pure.pure (.rt d))->Rn (f δ>>=K) M Q):Rn (mK f g δ) M Q:=by
 have:=h (fun r=>match r with | .nx δ'=>g δ' | r=>Pure.pure r) (fun _=>rfl) (fun _=>rfl)
 exact this
mutual
noncomputable def wt:D->Nat
 |.int _=>1921
 |.str x=>(reprText x).length
 |.tup l=>bf l+3
 |.lst l=>bf l+3
 |.dic _ _=>8000
 |_=>5
noncomputable def bf:List D->Nat
 |[]=>0
 |d::l=>wt d+2+bf l
end
inductive Gd(B:Nat):Nat->D->Prop
 |non {n:Nat}:Gd B n .non
 |bl {n:Nat} (b:Bool):Gd B n (.bl b)
 |int {n:Nat}{i:Int}:i.natAbs≤B->Gd B n (.int i)
 |str {n:Nat}{x:Str}:Gd B n (.str x)
 |d0 {n:Nat}:Gd B n (.dic [] [])
 |d1 {n:Nat}:Gd B n (.dic [.inl 0] [.int 1])
 |tup {n:Nat}{l:List D}:(∀x∈l,Gd B n x)->Gd B (n+1) (.tup l)
 |lst {n:Nat}{l:List D}:(∀x∈l,Gd B n x)->Gd B (n+1) (.lst l)
theorem Gd.mono {B B':Nat} (hB:B≤B'):∀ {n n':Nat}{d:D},Gd B n d->n≤n'->Gd B' n' d
 |_,_,_,.non,_=>.non
 |_,_,_,.bl b,_=>.bl b
 |_,_,_,.int h,_=>.int (Nat.le_trans h hB)
 |_,_,_,.str,_=>.str
 |_,_,_,.d0,_=>.d0
 |_,_,_,.d1,_=>.d1
 |_,n',_,.tup h,hn=>by
   obtain⟨m,rfl⟩:∃m,n'=m+1:=⟨n' - 1,by lia⟩
   exact .tup fun x hx=>(h x hx).mono hB (by lia)
 |_,n',_,.lst h,hn=>by
   obtain⟨m,rfl⟩:∃m,n'=m+1:=⟨n' - 1,by lia⟩
   exact .lst fun x hx=>(h x hx).mono hB (by lia)
theorem xZ {k:Nat}:∀ {l:List D},(∀ x∈l,∃ p,bZ x=some p∧p.showable=true∧p.depth≤k∧cQ p=wt x)->∃ ps,fH l=some ps∧PyData.showableAll ps=true∧PyData.depthAll ps≤k∧lM ps=bf l
 |[],_=>⟨[],by simp only[fH],by simp only[PyData.showableAll],by simp only[PyData.depthAll];lia,by simp only[lM,bf]⟩
 |d::l,h=>by
   obtain⟨p,a,b,c,e⟩:=h d (.head _)
   obtain⟨ps,a',b',c',e'⟩:=xZ fun x hx=>h x (.tail _ hx)
   exact⟨p::ps,by simp only[fH,a,a'],by simp only[PyData.showableAll,b,b',Bool.and_self],by simp only[PyData.depthAll];lia,by simp only[lM,bf,e,e']⟩
theorem Gd.py {B:Nat} (hB:B<2 ^ 1000):∀ {n:Nat}{d:D},Gd B n d->∃ p,bZ d=some p∧p.showable=true∧p.depth≤n + 3∧cQ p=wt d
 |_,_,.non=>⟨_,rfl,rfl,by simp only[PyData.depth];lia,by simp only[cQ,wt]⟩
 |_,_,.bl b=>⟨_,rfl,rfl,by simp only[PyData.depth];lia,by simp only[cQ,wt]⟩
 |_,_,.int h=>⟨_,rfl,by simpa[PyData.showableAll] using Ej (l:=[_]) (fun i hi=>by rw[List.mem_singleton.mp hi];exact Nat.lt_of_le_of_lt h hB),by simp only[PyData.depth];lia,by simp only[cQ,wt]⟩
 |_,_,.str=>⟨_,rfl,by simp only[PyData.showable],by simp only[PyData.depth];lia,by simp only[cQ,wt]⟩
 |_,_,.d0=>⟨_,rfl,by simp[PyData.showable,PyData.showableKv],by simp[PyData.depth,PyData.depthKv],by simp only[cQ,wt]⟩
 |_,_,.d1=>⟨_,rfl,by simp only[PyData.showable,PyData.showableKv];decide +kernel,by simp[PyData.depth,PyData.depthKv],by simp only[cQ,wt]⟩
 |_,_,.tup h=>by
   obtain⟨ps,a,b,c,e⟩:=xZ fun x hx=>(h x hx).py hB
   exact⟨.tuple ps,by simp only[bZ,a,Option.map_some],by simpa only[PyData.showable] using b,by simp only[PyData.depth];lia,by simp only[cQ,wt,e]⟩
 |_,_,.lst h=>by
   obtain⟨ps,a,b,c,e⟩:=xZ fun x hx=>(h x hx).py hB
   exact⟨.list ps,by simp only[bZ,a,Option.map_some],by simpa only[PyData.showable] using b,by simp only[PyData.depth];lia,by simp only[cQ,wt,e]⟩
mutual
theorem Ep:∀ {d:D}{p:PyData},toPy d=some p->bZ d=some p
 |.non,_,h=>h
 |.bl _,_,h=>h
 |.int _,_,h=>h
 |.str _,_,h=>h
 |.tup l,_,h=>by
   simp only[toPy,Option.map_eq_some_iff] at h
   obtain⟨ps,a,rfl⟩:=h
   simp only[bZ,vg a,Option.map_some]
 |.lst l,_,h=>by
   simp only[toPy,Option.map_eq_some_iff] at h
   obtain⟨ps,a,rfl⟩:=h
   simp only[bZ,vg a,Option.map_some]
 |.dic _ _,_,h=>by simp[toPy] at h
 |.obj _ _ _,_,h=>by simp[toPy] at h
 |.scr _,_,h=>by simp[toPy] at h
 |.ref _,_,h=>by simp[toPy] at h
 |.cls _,_,h=>by simp[toPy] at h
 |.ty _,_,h=>by simp[toPy] at h
 |.exn _,_,h=>by simp[toPy] at h
theorem vg:∀ {l:List D}{ps:List PyData},gb l=some ps->fH l=some ps
 |[],_,h=>h
 | d::l,_,h=>by
   simp only[gb] at h
   split at h
   ·rename_i a b
    cases h
    simp only[fH,Ep a,vg b]
   ·cases h
end
theorem Gd.sh {B n:Nat}{d:D} (h:Gd B n d) (hB:B<2 ^ 1000) (hn:n≤50) (hw:wt d≤10000000):Nz d:=by
 obtain⟨p,a,b,c,e⟩:=h.py hB
 refine⟨p.shown,bH fun M=>?_⟩
 have h0:Bh d=some p:=by
  unfold Bh
  split
  ·rename_i q hq
   rw[←a,Ep hq]
  ·exact a
 simp only[wI,h0,Option.bind_some,b,Bool.true_and]
 rw[if_pos]
 rw[Bool.and_eq_true,decide_eq_true_eq,decide_eq_true_eq]
 exact⟨by lia,by show _≤2^24;lia⟩
theorem gC:∀a b:List D,bf (a++b)=bf a+bf b
 |[],b=>by simp[bf]
 |x::a,b=>by simp only[List.cons_append,bf,gC a b];lia
theorem I9:∀a:List D,bf a.reverse=bf a
 |[]=>rfl
 |x::a=>by simp only[List.reverse_cons,gC,I9 a,bf];lia
theorem Ae(a:List D)(i:Nat):bf (a.take i)+bf (a.drop i)=bf a:=by rw[←gC,List.take_append_drop]
theorem iT:∀a:List D,2*a.length≤bf a
 |[]=>by simp[bf]
 |x::a=>by have:=iT a;simp only[List.length_cons,bf];lia
theorem iU:∀{a:List D}{x:D},x∈a->wt x+2≤bf a
 |x::a,_,.head _=>by simp only[bf];lia
 |x::a,_,.tail _ h=>by have:=iU h;simp only[bf];lia
theorem uV{L:List D}{t:Nat}(h:t<L.length):∃x,x∈L∧(rd (cF (.lst L) (nD t)):DM D)=pure x:=⟨L[t],List.getElem_mem h,Bk (List.getElem?_eq_getElem h)⟩
noncomputable def GX(B n c:Nat)(d:D)(p:Nat)(M:Mo)(r:D)(M':Mo):Prop:=(Gd (B+10^12) (n+2) r∧wt r≤wt d+c+10000)∧cC p M'∧Sb p M M'
theorem GX.mk{B n m p:Nat}{d r:D}{M M':Mo}(a:Gd (B+10^12) (n+2) r)(b:wt r≤wt d+m+10000)(c:cC p M')(e:Sb p M M'):GX B n m d p M r M':=⟨⟨a,b⟩,c,e⟩
noncomputable def pW:D->Bool
 |.tup _=>true
 |_=>false
noncomputable def isNm:D->Bool
 |.int _=>true
 |.bl _=>true
 |_=>false
theorem Gd.isT{B n:Nat}{d:D}(h:Gd B n d):(rd (kI [d,.ty "tuple"]):DM D)=pure (.bl (pW d)):=by
 cases h<;>first | exact cG (t := "NoneType") (fun _=>rfl) (by decide) | exact cG (t := "bool") (fun _=>rfl) (by decide) | exact cG (t := "int") (fun _=>rfl) (by decide) | exact cG (t := "str") (fun _=>rfl) (by decide) | exact cG (t := "dict") (fun _=>rfl) (by decide) | exact cG (t := "tuple") (fun _=>rfl) (by decide) | exact cG (t := "list") (fun _=>rfl) (by decide)
theorem Gd.isN{B n:Nat}{d:D}(h:Gd B n d):(rd (kI [d,.ty "int"]):DM D)=pure (.bl (isNm d)):=by
 cases h<;>first | exact cG (t := "NoneType") (fun _=>rfl) (by decide) | exact cG (t := "bool") (fun _=>rfl) (by decide) | exact cG (t := "int") (fun _=>rfl) (by decide) | exact cG (t := "str") (fun _=>rfl) (by decide) | exact cG (t := "dict") (fun _=>rfl) (by decide) | exact cG (t := "tuple") (fun _=>rfl) (by decide) | exact cG (t := "list") (fun _=>rfl) (by decide)
theorem Ny(l:List D)(i:Nat):(rd (nJ none (some (i:Int)) (.tup l)):DM D)=pure (.tup (l.take i)):=bH fun M=>by
 simp only[nJ,cutD,HT.sIx_none,HT.sIx_nat,List.drop_zero,Nat.sub_zero]
 exact congrArg (fun z=>some (D.tup z)) (List.take_eq_take_iff.mpr (by lia))
theorem Ed(l:List D)(i:Nat):(rd (nJ (some (i:Int)) none (.tup l)):DM D)=pure (.tup (l.drop i)):=bH fun M=>by
 simp only[nJ,cutD,HT.sIx_none,HT.sIx_nat]
 by_cases h:i≤l.length
 ·rw[Nat.min_eq_left h,List.take_of_length_le (by simp)]
 ·rw[Nat.min_eq_right (by lia),List.drop_of_length_le (Nat.le_refl _),List.drop_of_length_le (by lia),List.take_nil]
theorem Mq{l:List D}{i:Nat}(h:i<l.length):(rd (nJ (some (i:Int)) (some ((i+1:Nat):Int)) (.tup l)):DM D)=pure (.tup [l[i]]):=bH fun M=>by
 simp only[nJ,cutD,HT.sIx_nat]
 rw[Nat.min_eq_left (by lia),Nat.min_eq_left (by lia),List.drop_eq_getElem_cons h,Nat.add_sub_cancel_left];rfl
theorem iJ{x y:List D}(h:x.length+y.length≤10000000):(rd (cg (.tup x) (.tup y)):DM D)=pure (.tup (x++y)):=bH fun M=>by
 have:dJ (x++y)=true:=by unfold dJ;exact decide_eq_true (by show _≤2^24;rw[List.length_append];lia)
 simp[cg,vm,this]
theorem Ng(i:Int):G6 (.int i)=pure (some i):=id rfl
theorem uC(i:Nat):G6 (nD i)=pure (some (i:Int)):=id rfl
theorem Rn.asc{α β γ:Type}{m:DM α}{f:α->DM β}{g:β->DM γ}{M:Mo}{Q:γ->Mo->Prop}(h:Rn (m>>=fun a=>f a>>=g) M Q):Rn ((m>>=f)>>=g) M Q:=by rw[aO];exact h
noncomputable def jm:D->Bool
 |.int _=>true
 |_=>false
noncomputable def m9(n:Nat):D->Bool
 |.int i=>decide (0≤i)&&decide (i<n)
 |_=>false
theorem Gd.isB{B n:Nat}{d:D}(h:Gd B n d)(hN:isNm d=true):(rd (kI [d,.ty "bool"]):DM D)=pure (.bl (!jm d)):=by
 cases h with
 |bl b=>exact cG (t := "bool") (fun _=>rfl) (by decide)
 |int _=>exact cG (t := "int") (fun _=>rfl) (by decide)
 |_=>cases hN
theorem Gd.iw{B n:Nat}{d:D}(h:Gd B n d):o7 [d]=pure (.bl (jm d)):=by
 by_cases hN:isNm d=true
 ·simp[o7,jG,h.isN,hN,h.isB hN]
 ·have:jm d=false:=by cases d<;>first | rfl | (exact absurd rfl hN)
  rw[Bool.not_eq_true] at hN
  simp[o7,jG,h.isN,hN,this]
noncomputable def o8:=aL 1 1 jX
theorem Gd.lw{B n:Nat}{d:D}(h:Gd B n d):o8 [d]=pure (.bl (jm d)):=by
 by_cases hN:isNm d=true
 ·simp[o8,jX,h.isN,hN,h.isB hN]
 ·have:jm d=false:=by cases d<;>first | rfl | (exact absurd rfl hN)
  rw[Bool.not_eq_true] at hN
  simp[o8,jX,h.isN,hN,this]
noncomputable def q9:=aL 1 2 (tM jR)
noncomputable def pZ:List D:=[.non,.bl true,.bl false,.int (-1),.int 100000000000,.str "",.str "a",.str "1",.tup [],.lst [],.dic [] [],.lst [.tup []],.tup [.tup []],.tup [.int 0],.lst [.int 0],.dic [.inl 0] [.int 1],.tup [.bl true,.bl true]]
theorem J1:∀d∈pZ,Gd (10^11) 2 d∧wt d≤9000:=by
 have t0:Gd (10^11) 1 (.tup []):=.tup fun _ h=>by cases h
 have i0:Gd (10^11) 1 (.int 0):=.int (by decide)
 have s1:∀x:Str,(reprText x).length≤100->Gd (10^11) 2 (.str x)∧wt (.str x)≤9000:=fun x h=>⟨.str,by simp only[wt];lia⟩
 intro d hd
 simp only[pZ,List.mem_cons,List.not_mem_nil,or_false] at hd
 rcases hd with rfl | rfl | rfl | rfl | rfl | rfl | rfl | rfl | rfl | rfl | rfl | rfl | rfl | rfl | rfl | rfl | rfl
 ·exact⟨.non,by simp[wt]⟩
 ·exact⟨.bl _,by simp[wt]⟩
 ·exact⟨.bl _,by simp[wt]⟩
 ·exact⟨.int (by decide),by simp[wt]⟩
 ·exact⟨.int (by decide),by simp[wt]⟩
 ·exact s1 _ (by decide +kernel)
 ·exact s1 _ (by decide +kernel)
 ·exact s1 _ (by decide +kernel)
 ·exact⟨.tup fun _ h=>(by cases h),by simp[wt,bf]⟩
 ·exact⟨.lst fun _ h=>(by cases h),by simp[wt,bf]⟩
 ·exact⟨.d0,by simp[wt]⟩
 ·exact⟨.lst fun x h=>by rw[List.mem_singleton.mp h];exact t0,by simp[wt,bf]⟩
 ·exact⟨.tup fun x h=>by rw[List.mem_singleton.mp h];exact t0,by simp[wt,bf]⟩
 ·exact⟨.tup fun x h=>by rw[List.mem_singleton.mp h];exact i0,by simp[wt,bf]⟩
 ·exact⟨.lst fun x h=>by rw[List.mem_singleton.mp h];exact i0,by simp[wt,bf]⟩
 ·exact⟨.d1,by simp[wt]⟩
 ·exact⟨.tup fun x h=>by simp at h;rw[h];exact .bl _,by simp[wt,bf]⟩
theorem mZ{p:Nat}{M:Mo}(h:cC p M):Rn (q9 [.ref p]) M fun d M'=>(Gd (10^11) 2 d∧wt d≤9000)∧cC p M'∧Sb p M M':=by
 unfold q9 tM ou;dsimp only
 refine Rn.call rfl ?_
 have p11:(rd (uT (.int 10) (.int 11)):DM D)=pure (.int 100000000000):=by rw[wG (by decide)];rfl
 have m1:fY []=pure (.tup []):=dm (by simp)
 have m2:dN []=pure (.lst []):=cO (by simp)
 have m3:fY [.tup []]=pure (.tup [.tup []]):=dm (by simp)
 have m3':dN [.tup []]=pure (.lst [.tup []]):=cO (by simp)
 have m4:fY [.int 0]=pure (.tup [.int 0]):=dm (by simp)
 have m5:dN [.int 0]=pure (.lst [.int 0]):=cO (by simp)
 have m6:fY [.bl true,.bl true]=pure (.tup [.bl true,.bl true]):=dm (by simp)
 have m7:dN pZ=pure (.lst pZ):=cO (by simp[pZ])
 refine aK fun K hK=>?_
 simp[p11,m1,m2,m3,m3',m4,m5,m6]
 change Rn (dN pZ>>=_) M _
 rw[m7,au,hK];clear hK K
 simp
 refine Rn.bind (cM (far:=(pZ.length:Int)) h (by decide) (by decide)) fun d1 M1 ⟨t,g,e,hp1,s1⟩=>?_
 subst e
 have ht:t<pZ.length:=by lia
 obtain⟨x,hx,ex⟩:=uV ht
 rw[ex]
 exact Rn.pure ⟨_,rfl,J1 _ hx,hp1,s1⟩
theorem KY(l:List D):(rd (nJ (some (-1)) none (.tup l)):DM D)=pure (.tup (l.drop (l.length-1))):=bH fun M=>by
 simp only[nJ,cutD,HT.sIx_none]
 have e:HT.sIx l.length 0 (some (-1))=l.length-1:=by
  show (if (-1:Int)<0 then (-1+(l.length:Int)).toNat else min (-1:Int).toNat l.length)=_
  rw[if_pos (by decide)];lia
 rw[e,List.take_of_length_le (by simp)]
noncomputable def qY:Nat->List D->DM D
 |0=>aL 2 4 fun _=>stuck
 |n+1=>aL 2 4 (rA jR o8 q9 (qY n))
theorem I8{l:List D}{c:Nat}(h:∀x∈l,wt x≤c):bf (l.drop (l.length-1))≤c+2:=by
 by_cases h0:l.length=0
 ·rw[List.length_eq_zero_iff.mp h0];simp[bf]
 ·have hl:l.length-1<l.length:=by lia
  rw[List.drop_eq_getElem_cons hl,List.drop_of_length_le (by lia)]
  have:=h _ (List.getElem_mem hl)
  simp only[bf];lia
theorem Cp:∀ (m:Nat) {n B c p:Nat}{d:D}{M:Mo},n<m->Gd B n d->cC p M->wt d≤1000000->(∀ l,d=.tup l->∀ x∈l,wt x≤c)->Rn (qY m [.ref p,d]) M (GX B n c d p M):=by
 intro m
 induction m with
 |zero=>intro n B c p d M h;lia
 | succ m ih=>
   intro n B c p d M hm hd hp hw hcc
   unfold qY rA mC;dsimp only
   refine Rn.call rfl ?_
   have st:dI 4 [D.ref p,d]=[some (.ref p),some d,none,none]:=rfl
   rw[st]
   refine iz fun K hK hR=>?_
   simp[hd.isT]
   by_cases hT:pW d=true
   ·simp [hT]
    rw[hK];clear hK hR K
    cases hd with
    | @tup n l hl=>
      have hwl:bf l+3≤1000000:=by simpa only[wt] using hw
      have hlen:=iT l
      have hcl:=hcc l rfl
      have m0:fY []=pure (.tup []):=dm (by simp)
      have eqz:(rd (Jk (.tup l) (.tup [])):DM D)=pure (.bl l.isEmpty):=bH fun M=>rfl
      have mg:∀{x:D},Gd B n x->Gd (B+10^12) (n+2) x:=fun h=>h.mono (by lia) (by lia)
      have md:∀{x:D},Gd (10^11) 2 x->Gd (B+10^12) (n+2) x:=fun h=>h.mono (by lia) (by lia)
      refine aK fun K hK=>?_
      simp
      refine Rn.bind (cM (far:=12) hp (by decide) (by decide)) fun d1 M1 ⟨way,g,e,hp1,s1⟩=>?_
      subst e
      rw[hK];clear hK K
      have ew0:(rd (dF (nD way) (.int 0)):DM D)=pure (.bl (decide (way=0))):=qg way 0
      have ew1:(rd (dF (nD way) (.int 1)):DM D)=pure (.bl (decide (way=1))):=qg way 1
      have ew2:(rd (dF (nD way) (.int 2)):DM D)=pure (.bl (decide (way=2))):=qg way 2
      refine iz fun K hK hR=>?_
      refine Rn.asc (Rn.bind (Q1:=fun k M'=>k=(decide (way=0) || l.isEmpty)∧M'=M1) ?_ fun k M' ⟨e1,e2⟩=>?_)
      ·by_cases h:decide (way=0)=true
       ·simp only[bR,aO,bF,ew0,oE,h,if_true];exact Rn.pure ⟨rfl,rfl⟩
       ·rw[Bool.not_eq_true] at h
        simp only[bR,aO,bF,ew0,oE,h,Bool.false_eq_true,if_false,m0,eqz];exact Rn.pure ⟨rfl,rfl⟩
      subst e1 e2
      by_cases hz:(decide (way=0) || l.isEmpty)=true
      ·rw [hz,if_pos rfl]
       have ll:(rd (fun M=>(eY [.tup l] M).map D.lst):DM D)=pure (.lst l):=bH fun M=>rfl
       simp only[bR,aO,bF]
       refine Rn.bind (mZ hp1) fun o1 M2 ⟨⟨go,wo⟩,hp2,s2⟩=>?_
       simp only[ll,au]
       refine Rn.bind (mZ hp2) fun o2 M3 ⟨⟨zH,wo2⟩,hp3,s3⟩=>?_
       have mk1:fY [o2]=pure (.tup [o2]):=dm (by simp)
       have ad1:(rd (cg (.tup l) (.tup [o2])):DM D)=pure (.tup (l++[o2])):=iJ (by simp;lia)
       have ld:=I8 hcl
       have ll2:(l.drop (l.length-1)).length≤1:=by rw[List.length_drop];lia
       have ad2:(rd (cg (.tup l) (.tup (l.drop (l.length-1)))):DM D)=pure (.tup (l++l.drop (l.length-1))):=iJ (by lia)
       simp only[mk1,au,ad1,Hm,Ng,KY,ad2]
       have ml:dN [o1,.lst l,.tup (l++[o2]),.tup (l++l.drop (l.length-1))]=pure (.lst [o1,.lst l,.tup (l++[o2]),.tup (l++l.drop (l.length-1))]):=cO (by simp)
       simp only[ml,au]
       refine Rn.bind (cM (far:=4) hp3 (by decide) (by decide)) fun d3 M4 ⟨t,gt,e,hp4,s4⟩=>?_
       subst e
       have hm':∀ x∈([o1,.lst l,.tup (l++[o2]),.tup (l++l.drop (l.length - 1))]:List D),Gd (B + 10 ^ 12) (n + 1 + 2) x∧wt x≤wt (.tup l) + c + 10000:=by
        intro x hx
        simp only[List.mem_cons,List.not_mem_nil,or_false] at hx
        simp only[wt]
        rcases hx with rfl | rfl | rfl | rfl
        ·exact⟨(md go).mono (Nat.le_refl _) (by lia),by lia⟩
        ·exact⟨.lst fun x hx=>mg (hl x hx),by simp only[wt];lia⟩
        ·exact⟨.tup fun x hx=>by
          rcases List.mem_append.mp hx with hx | hx
          ·exact mg (hl x hx)
          ·rw[List.mem_singleton.mp hx];exact md zH,by simp only[wt,gC,bf];lia⟩
        ·exact⟨.tup fun x hx=>by
          rcases List.mem_append.mp hx with hx | hx
          ·exact mg (hl x hx)
          ·exact mg (hl x (List.mem_of_mem_drop hx)),by simp only[wt,gC];lia⟩
       obtain⟨x,hx,ex⟩:=uV (L:=[o1,.lst l,.tup (l++[o2]),.tup (l++l.drop (l.length-1))]) (t:=t) (by show t<4;lia)
       rw[ex,au,hR]
       exact Rn.pure ⟨_,rfl,.mk (hm' _ hx).1 (hm' _ hx).2 hp4 (s1.trans (s2.trans (s3.trans s4)))⟩
      ·rw [if_neg hz,au,hK];clear hK hR K
       have l0:0<l.length:=by
        cases l with
        |nil=>simp at hz
        |cons a l=>simp
       refine aK fun K hK=>?_
       simp
       refine Rn.bind (cM (far:=(l.length:Int)) hp1 (by lia) (by lia)) fun d3 M2 ⟨a,ga',e,hp2,s2⟩=>?_
       subst e
       have ga':a<l.length:=by lia
       rw[hK];clear hK K
       have c1:=Ae l a
       have c2:=Ae l (a+1)
       have c3:=iU (List.getElem_mem ga')
       have c5:=hcl _ (List.getElem_mem ga')
       have c4:bf (l.drop a)=wt l[a]+2+bf (l.drop (a+1)):=by rw[List.drop_eq_getElem_cons ga'];simp only[bf]
       have to1:=Ny l a
       have fr1:(rd (nJ (some ((a+1:Nat):Int)) none (.tup l)):DM D)=pure (.tup (l.drop (a+1))):=Ed l (a+1)
       have fr0:=Ed l a
       have one:=Mq ga'
       have hwt:wt (.tup l)=bf l+3:=by simp only[wt]
       have g1:∀x∈l.take a,Gd (B+10^12) (n+2) x:=fun x hx=>mg (hl x (List.mem_of_mem_take hx))
       have g2:∀x∈l.drop (a+1),Gd (B+10^12) (n+2) x:=fun x hx=>mg (hl x (List.mem_of_mem_drop hx))
       have g3:∀x∈l.drop a,Gd (B+10^12) (n+2) x:=fun x hx=>mg (hl x (List.mem_of_mem_drop hx))
       have t1:(l.take a).length≤l.length:=by rw[List.length_take];lia
       have t2:(l.drop (a+1)).length≤l.length:=by rw[List.length_drop];lia
       have t3:(l.drop a).length≤l.length:=by rw[List.length_drop];lia
       have ixa:(rd (cF (.tup l) (nD a)):DM D)=pure l[a]:=oG (List.getElem?_eq_getElem ga')
       have hza:=hl _ (List.getElem_mem ga')
       revert c1 c2 c3 c4 c5 to1 fr1 fr0 one g1 g2 g3 t1 t2 t3 ixa hza
       generalize l[a]=z
       generalize l.take a=ta
       generalize l.drop (a+1)=db
       generalize l.drop a=da
       intro c1 c2 c3 c4 c5 to1 fr1 fr0 one g1 g2 g3 t1 t2 t3 ixa hza
       refine iz fun K hK hR=>?_
       by_cases h1:way=1
       ·have ad:(rd (cg (.tup ta) (.tup db)):DM D)=pure (.tup (ta++db)):=iJ (by lia)
        have ew1':(rd (dF (nD way) (.int 1)):DM D)=pure (.bl true):=by rw[ew1,decide_eq_true h1]
        simp[ew1',uC,to1]
        simp only[uU,au,uC,fr1,ad,hR]
        refine Rn.pure ⟨_,rfl,.mk (.tup fun x hx=>?_) ?_ hp2 (s1.trans s2)⟩
        ·rcases List.mem_append.mp hx with hx | hx
         ·exact g1 x hx
         ·exact g2 x hx
        ·rw[hwt];simp only[wt,gC];lia
       simp[ew1,h1]
       rw[hK];clear hK hR K
       refine iz fun K hK hR=>?_
       by_cases h2:way=2
       ·have ad:(rd (cg (.tup ta) (.tup [z])):DM D)=pure (.tup (ta++[z])):=iJ (by simp;lia)
        have ad':(rd (cg (.tup (ta++[z])) (.tup da)):DM D)=pure (.tup (ta++[z]++da)):=iJ (by simp;lia)
        have ew2':(rd (dF (nD way) (.int 2)):DM D)=pure (.bl true):=by rw[ew2,decide_eq_true h2]
        simp[ew2',uC,to1]
        simp only[uU,au,uC,fr0,one,ad,ad',hR]
        refine Rn.pure ⟨_,rfl,.mk (.tup fun x hx=>?_) ?_ hp2 (s1.trans s2)⟩
        ·rcases List.mem_append.mp hx with hx | hx
         ·rcases List.mem_append.mp hx with hx | hx
          ·exact g1 x hx
          ·rw[List.mem_singleton.mp hx];exact mg hza
         ·exact g3 x hx
        ·rw[hwt];simp only[wt,gC,bf];lia
       simp[ew2,h2]
       rw[hK];clear hK hR K
       simp[uC,to1,ixa]
       refine Rn.bind (ih (c:=c) (by lia) hza hp2 (by lia) (fun l' hl' x hx=>by have:=iU hx;have h6:wt z=bf l' + 3:=(by rw[hl'];simp only[wt]);lia)) fun r M3 ⟨⟨gr,wr⟩,hp3,s3⟩=>?_
       have mk1:fY [r]=pure (.tup [r]):=dm (by simp)
       have ad:(rd (cg (.tup ta) (.tup [r])):DM D)=pure (.tup (ta++[r])):=iJ (by simp;lia)
       have ad':(rd (cg (.tup (ta++[r])) (.tup db)):DM D)=pure (.tup (ta++[r]++db)):=iJ (by simp;lia)
       simp only[mk1,au,ad,uU,uC,fr1,ad']
       refine Rn.pure ⟨_,rfl,.mk (.tup fun x hx=>?_) ?_ hp3 (s1.trans (s2.trans s3))⟩
       ·rcases List.mem_append.mp hx with hx | hx
        ·rcases List.mem_append.mp hx with hx | hx
         ·exact g1 x hx
         ·rw[List.mem_singleton.mp hx];exact gr
        ·exact g2 x hx
       ·rw[hwt];simp only[wt,gC,bf];lia
    |_=>cases hT
   ·rw [Bool.not_eq_true] at hT
    simp[hT]
    simp[hd.lw]
    have odw:∀{M1:Mo},cC p M1->Sb p M M1->Rn (q9 [.ref p]) M1 fun r M'=>GX B n c d p M r M':=fun hp1 s1=>(mZ hp1).mono fun r M' ⟨⟨a,b⟩,c,e⟩=>.mk (a.mono (by lia) (by lia)) (by lia) c (s1.trans e)
    by_cases hN:jm d=true
    ·obtain ⟨i,rfl⟩:∃ i,d=.int i:=by cases d<;>first | exact ⟨_,rfl⟩ | cases hN
     have bi:i.natAbs≤B:=by cases hd;assumption
     simp[hN]
     refine Rn.bind (cM (far:=3) hp (by decide) (by decide)) fun d1 M1 ⟨t,g,e,hp1,s1⟩=>?_
     subst e
     have g0:(rd (Ha (nD t) (.int 0)):DM D)=pure (.bl (decide (0<t))):=Ku t 0
     rw[g0]
     by_cases h0:0<t
     ·have pw:(rd (uT (.int 10) (.int 4)):DM D)=pure (.int 10000):=by rw[wG (by decide)];rfl
      have ml:dN [.int 1,.int (-1),.int 9,.int 100,.int 9999,.int (-10000)]=pure (.lst [.int 1,.int (-1),.int 9,.int 100,.int 9999,.int (-10000)]):=cO (by simp)
      simp[h0,pw,ml]
      refine Rn.bind (cM (far:=6) hp1 (by decide) (by decide)) fun d2 M2 ⟨u,gu,e,hp2,s2⟩=>?_
      subst e
      obtain⟨x,hx,ex⟩:=uV (L:=[.int 1,.int (-1),.int 9,.int 100,.int 9999,.int (-10000)]) (t:=u) (by show u<6;lia)
      obtain⟨j,hj,rfl⟩:∃j:Int,j.natAbs≤10000∧x=.int j:=by
       simp only[List.mem_cons,List.not_mem_nil,or_false] at hx
       rcases hx with rfl | rfl | rfl | rfl | rfl | rfl<;>exact⟨_,by decide,rfl⟩
      rw[ex,au,wF,au,hR]
      exact Rn.pure ⟨_,rfl,.mk (.int (by lia)) (by simp only[wt];lia) hp2 (s1.trans s2)⟩
     ·simp[h0]
      exact Rn.bind (odw hp1 s1) fun r M' q=>by rw[hR];exact Rn.pure ⟨_,rfl,q⟩
    ·rw[Bool.not_eq_true] at hN
     simp[hN]
     exact Rn.bind (odw hp Sb.refl) fun r M' q=>by rw[hR];exact Rn.pure ⟨_,rfl,q⟩
theorem qD{fe:ao->DM D}{x:Option D}{rest:ao}{l:List D}(e:D->D)(hl:l.length≤1000000)(h:∀d∈l,fe (some d::rest)=pure (e d)) :
  dj (aZ (gN 0) (fun _=>pure true) (bh fe) l (x::rest) [])=pure (cZ x l::rest,l.map e):=by
 have:=lN (x:=x) (rest:=rest) (as:=l) (fe:=fe) id e hl h
 simpa using this
theorem lq(l:List D)(p:D->Bool):(rd (pM [.lst (l.map fun d=>.bl (p d))]):DM D)=pure (.bl (l.all p)):=by
 have:=yz (l.map p)
 rw[List.map_map] at this
 simpa[Function.comp_def] using this
noncomputable def qz:D->Bool
 |.int i=>decide (0≤i)
 |_=>false
noncomputable def fO(n:Nat):D->Bool
 |.tup l=>decide (l.length=n)&&l.all qz
 |_=>false
noncomputable def qp(n:Nat):D->Bool
 |.tup l=>decide (l.length=n)&&l.all (fO n)
 |_=>false
theorem rG:∀ {l:List D},l.all qz=true->∃ ns:List Nat,l=ns.map nD
 |[],_=>⟨[],rfl⟩
 | d::l,h=>by
   rw[List.all_cons,Bool.and_eq_true] at h
   obtain⟨ns,rfl⟩:=rG h.2
   have h1:=h.1
   cases d with
   |int i=>
     simp only[qz,decide_eq_true_eq] at h1
     refine⟨i.toNat::ns,?_⟩
     have:nD i.toNat=.int i:=by unfold nD;congr 1;lia
     simp[this]
   |_=>cases h1
theorem Mp {n:Nat}{d:D} (h:fO n d=true):∃ ns:List Nat,d=nT ns∧ns.length=n:=by
 cases d with
 |tup l=>
   simp only[fO,Bool.and_eq_true,decide_eq_true_eq] at h
   obtain⟨ns,rfl⟩:=rG h.2
   exact⟨ns,rfl,by rw[←h.1,List.length_map]⟩
 |_=>cases h
theorem rows_of {n:Nat}:∀ {l:List D},l.all (fO n)=true->∃ R:List (List Nat),l=R.map nT∧∀ r∈R,r.length=n
 |[],_=>⟨[],rfl,fun _ h=>by cases h⟩
 |d::l,h=>by
   rw[List.all_cons,Bool.and_eq_true] at h
   obtain⟨R,rfl,hR⟩:=rows_of h.2
   obtain⟨ns,rfl,hn⟩:=Mp h.1
   refine⟨ns::R,rfl,fun r hr=>?_⟩
   rcases List.mem_cons.mp hr with rfl | hr
   ·exact hn
   ·exact hR r hr
theorem Mm {n:Nat}{d:D} (h:qp n d=true):∃ R:List (List Nat),d=nM R∧R.length=n∧∀ r∈R,r.length=n:=by
 cases d with
 |tup l=>
   simp only[qp,Bool.and_eq_true,decide_eq_true_eq] at h
   obtain⟨R,rfl,hR⟩:=rows_of h.2
   exact⟨R,rfl,by rw[←h.1,List.length_map],hR⟩
 |_=>cases h
theorem Gd.wg{B n:Nat}{d:D}(h:Gd B n d):((o7 [d]>>=fun x=>fW x>>=fun k=>if k=true then rd (zG d (.int 0)) else pure (.bl false)):DM D)=pure (.bl (qz d)):=by
 rw[h.iw,au,oE,au]
 cases d with
 |int i=>exact Ks i 0
 |_=>rfl
theorem Gd.wl{B n:Nat}{d:D}(h:Gd B n d):((o8 [d]>>=fun x=>fW x>>=fun k=>if k=true then rd (zG d (.int 0)) else pure (.bl false)):DM D)=pure (.bl (qz d)):=by
 rw[h.lw,au,oE,au]
 cases d with
 |int i=>exact Ks i 0
 |_=>rfl
theorem Gd.aw {B n:Nat}{d:D} (h:Gd B n d) (hw:wt d≤1000000) (m:Nat):o6 [d,nD m]=pure (.bl (fO m d)):=by
 have isT:=h.isT
 by_cases hT:pW d=false
 ·have:fO m d=false:=by cases d<;>first | rfl | cases hT
  rw[this]
  simp[o6,dZ,isT,hT]
 cases h with
 | @tup n l hl=>
   have hlen:=iT l
   have hwl:bf l+3≤1000000:=by simpa only[wt] using hw
   have ln:(rd (du (.int (l.length:Int)) (nD m)):DM D)=pure (.bl (!decide (l.length=m))):=qi l.length m
   by_cases hm:¬ l.length=m
   ·have lf:(rd (du (.int (l.length:Int)) (nD m)):DM D)=pure (.bl true):=by rw[ln,decide_eq_false hm];rfl
    simp[o6,dZ,isT,hT,lf,fO,hm]
   have hm:l.length=m:=by lia
   have lt:(rd (du (.int (l.length:Int)) (nD m)):DM D)=pure (.bl false):=by rw[ln,decide_eq_true hm];rfl
   have c1:=qD (x:=none) (rest:=[]) (l:=l) (fe:=fun δ=>opt δ[0]?.join>>=fun a=>o7 [a]>>=fun a_1=>fW a_1>>=fun k=>if k=true then opt δ[0]?.join>>=fun a=>rd (zG a (.int 0)) else pure (.bl false)) (fun d=>.bl (qz d)) (by lia) (fun d hd=>by
    have:=(hl d hd).wg
    simp only[List.getElem?_cons_zero,Option.join_some,gU,au]
    exact this)
   have e:fO m (.tup l)=l.all qz:=by simp only[fO,decide_eq_true hm,Bool.true_and]
   rw[e]
   simp[o6,dZ,isT,hT,lt,aP,bc]
   rw[c1,au,lq]
 |_=>exact absurd rfl hT
theorem Gd.ar {B n:Nat}{d:D} (h:Gd B n d) (hw:wt d≤1000000) (m:Nat):vz [d,nD m]=pure (.bl (qp m d)):=by
 have isT:=h.isT
 by_cases hT:pW d=false
 ·have:qp m d=false:=by cases d<;>first | rfl | cases hT
  rw[this]
  simp[vz,jE,isT,hT]
 cases h with
 | @tup n l hl=>
   have hlen:=iT l
   have hwl:bf l+3≤1000000:=by simpa only[wt] using hw
   have ln:(rd (du (.int (l.length:Int)) (nD m)):DM D)=pure (.bl (!decide (l.length=m))):=qi l.length m
   by_cases hm:¬ l.length=m
   ·have lf:(rd (du (.int (l.length:Int)) (nD m)):DM D)=pure (.bl true):=by rw[ln,decide_eq_false hm];rfl
    simp[vz,jE,isT,hT,lf,qp,hm]
   have hm:l.length=m:=by lia
   have lt:(rd (du (.int (l.length:Int)) (nD m)):DM D)=pure (.bl false):=by rw[ln,decide_eq_true hm];rfl
   have c1:=qD (x:=none) (rest:=[some (nD m)]) (l:=l) (fe:=fun δ=>opt δ[0]?.join>>=fun a=>opt δ[1]?.join>>=fun b=>o6 [a,b]) (fun d=>.bl (fO m d)) (by lia) (fun d hd=>by
    simp only[bR]
    exact (hl d hd).aw (by have:=iU hd;lia) m)
   have e:qp m (.tup l)=l.all (fO m):=by simp only[qp,decide_eq_true hm,Bool.true_and]
   rw[e]
   simp[vz,jE,isT,hT,lt,aP,bc]
   rw[c1,au,lq]
 |_=>exact absurd rfl hT
theorem DR(a b:List Nat):(rd (dF (.lst (a.map nD)) (.lst (b.map nD))):DM D)=pure (.bl (decide (a=b))):=bH fun M=>by
 have e:∀l:List Nat,l.map nD=(l.map fun n:Nat=>(n:Int)).map D.int:=fun l=>by rw[List.map_map];rfl
 have d:=jK (a.map fun n:Nat=>(n:Int))
 have q:=lO (a.map fun n:Nat=>(n:Int)) (b.map fun n:Nat=>(n:Int))
 have c:decide ((a.map fun n:Nat=>(n:Int))=(b.map fun n:Nat=>(n:Int)))=decide (a=b):=by
  rw[Bool.eq_iff_iff,decide_eq_true_eq,decide_eq_true_eq]
  exact rY
 rw[e a,e b]
 simp only[dF,L3.eqB,eqP,toPy,jM,Option.map_some,PyData.canLay0,lay_ints,PyData.depth,PyData.eqv]
 rw[q,c,if_pos (by rw[Bool.and_self,Bool.true_and];exact decide_eq_true (by lia))]
 rfl
theorem fF{k:Nat}{tg:D->ao->DM ao}{fb:ao->DM Fl}{l:List D}{δ:ao}:my k tg fb (.fix l) δ=forL tg fb l δ:=rfl
theorem lA{fg:D->ao->DM ao}{ft:ao->DM Bool}{fb:ao->List D->DM (ao×List D)}{ds:List D}{δ:ao}{l:List D}:dC fg ft fb (.fix ds) δ l=aZ fg ft fb ds δ l:=rfl
noncomputable def cols(n:Nat)(R:List (List Nat)):List Nat:=(List.range n).map fun y=>(R.map fun r=>ga r y).sum
noncomputable def jB(f s:List Nat)(R:List (List Nat)):Bool:=decide (R.map List.sum=f)&&decide (cols f.length R=s)
noncomputable def qZ:=aL 3 5 (uD vz)
theorem pO{R:List (List Nat)}{n y:Nat}(hR:∀r∈R,r.length=n)(hl:R.length≤1000000)(hy:y<n):dj (aZ (gN 0) (fun _=>pure true) (bh fun δ=>opt δ[0]?.join>>=fun a=>opt δ[1]?.join>>=fun b=>rd (cF a b)) (R.map nT) [none,some (nD y)] [])=pure ([cZ none (R.map nT),some (nD y)],(R.map fun r=>ga r y).map nD):=by
 have:=lN (x:=none) (rest:=[some (nD y)]) (as:=R) (fe:=fun δ=>opt δ[0]?.join>>=fun a=>opt δ[1]?.join>>=fun b=>rd (cF a b)) nT (fun r=>nD (ga r y)) hl (fun r hr=>by
  simp only[bR]
  exact Bl (by rw[hR r hr];exact hy))
 rw[this,List.map_map];rfl
theorem qy{R:List (List Nat)}(hl:R.length≤1000000):dj (aZ (gN 0) (fun _=>pure true) (bh fun δ=>opt δ[0]?.join>>=fun a=>rd (lH [a])) (R.map nT) [none] [])=pure ([cZ none (R.map nT)],(R.map List.sum).map nD):=by
 have:=lN (x:=none) (rest:=[]) (as:=R) (fe:=fun δ=>opt δ[0]?.join>>=fun a=>rd (lH [a])) nT (fun r=>nD r.sum) hl (fun r hr=>by
  simp only[List.getElem?_cons_zero,Option.join_some,gU,au]
  exact Ec r)
 rw[this,List.map_map];rfl
theorem Lq{f s:List Nat}{B n:Nat}{d:D}(h:Gd B n d)(hw:wt d≤1000000)(hf:f.length≤1000)(hr:qp f.length d=false):qZ [nT f,nT s,d]=pure (.bl false):=by
 have ar:=h.ar hw f.length
 rw[hr] at ar
 simp[qZ,uD,cL,ar]
theorem JC{f s:List Nat}{R:List (List Nat)}(hf:f.length≤1000)(hl:R.length=f.length)(hR:∀r∈R,r.length=f.length)(ha:vz [nM R,nD f.length]=pure (.bl true)):qZ [nT f,nT s,nM R]=pure (.bl (jB f s R)):=by
 have rg:fU [nD f.length]=some (.fix ((List.range f.length).map nD)):=uv (n:=f.length) (by lia)
 have at':jV (nM R)=some (.fix (R.map nT)):=rfl
 have cc:=lN (x:=none) (rest:=[some (nM R)]) (as:=List.range f.length) (fe:=fun δ=>opt δ[1]?.join>>=fun a=>opt (jV a)>>=fun a=>dj (dC (gN 0) (fun _=>pure true) (bh fun δ=>opt δ[0]?.join>>=fun a=>opt δ[1]?.join>>=fun b=>rd (cF a b)) a [none,δ[0]?.getD none] [])>>=fun a=>pure (.tup a.snd)) nD (fun y=>nT (R.map fun r=>ga r y)) (by simp;lia) (fun y hy=>by
  simp only[bR,at',Option.getD_some]
  show (dj (aZ _ _ _ _ _ _)>>=_)=_
  rw[pO hR (by lia) (List.mem_range.mp hy),au];rfl)
 have ls:∀l:List Nat,(rd (fun M=>(eY [nT l] M).map D.lst):DM D)=pure (.lst (l.map nD)):=fun l=>bH fun M=>rfl
 have e1:=DR (R.map List.sum) f
 have al:(rd (o9 (.lst ((List.range f.length).map fun y=>nT (R.map fun r=>ga r y)))):DM Itn)=pure (.fix ((List.range f.length).map fun y=>nT (R.map fun r=>ga r y))):=rfl
 simp[qZ,uD,cL,ha,rg,aP,bc]
 rw[cc,au]
 have s1:=qy (R:=R) (by lia)
 have e2:=DR (cols f.length R) s
 have s2':dj (aZ (gN 0) (fun _=>pure true) (bh fun δ=>opt δ[0]?.join>>=fun a=>rd (lH [a])) ((List.range f.length).map fun y=>nT (R.map fun r=>ga r y)) [none] [])=pure ([cZ none ((List.range f.length).map fun y=>nT (R.map fun r=>ga r y))],(cols f.length R).map nD):=by
  have q1:((List.range f.length).map fun y=>nT (R.map fun r=>ga r y))=((List.range f.length).map fun y=>R.map fun r=>ga r y).map nT:=by rw[List.map_map];rfl
  have q2:((List.range f.length).map fun y=>R.map fun r=>ga r y).map List.sum=cols f.length R:=by rw[List.map_map];rfl
  rw[q1,qy (by simp;lia),q2]
 simp only[at',gU,au,lA,s1,ls,e1,oE,al,s2',e2]
 unfold jB
 by_cases hc:decide (R.map List.sum=f)=true
 ·rw[hc,if_pos rfl,Bool.true_and]
 ·rw[Bool.not_eq_true] at hc
  rw[hc,if_neg (by decide),Bool.false_and]
noncomputable def jC:=aL 3 6 (dB tK o8)
theorem xH {tg:D->ao->DM ao}{fb:ao->DM Fl} (I:Nat->ao->Mo->Prop) (P:D->Mo->Prop):∀ (ds:List D) (i:Nat) (δ:ao) (M:Mo),I i δ M->(∀ j d δ M,ds[j]?=some d->I (i + j) δ M->Rn (tg d δ >>= fb) M fun r M'=>(∃ δ',r=.nx δ'∧I (i + j + 1) δ' M')∨∃ d,r=.rt d∧P d M')->Rn (forL tg fb ds δ) M fun r M'=>(∃ δ',r=.nx δ'∧I (i + ds.length) δ' M')∨∃ d,r=.rt d∧P d M'
 |[],i,δ,M,h,_=>Rn.pure (.inl ⟨δ,rfl,h⟩)
 | d::ds,i,δ,M,h,st=>by
   have s:=st 0 d δ M rfl h
   have e:forL tg fb (d::ds) δ=(tg d δ>>=fb)>>=fun r=>match r with
    |.nx δ2=>forL tg fb ds δ2
    |.ct δ2=>forL tg fb ds δ2
    |.bk δ2=>Pure.pure (.nx δ2)
    |.rt d=>Pure.pure (.rt d):=by rw[aO];rfl
   rw[e]
   refine Rn.bind s fun r M' h=>?_
   rcases h with ⟨δ',e,h'⟩ | ⟨d',e,h'⟩
   ·subst e
    have ih:=xH I P ds (i+1) δ' M' h' (fun j d δ M hj hI=>by
     have:=st (j+1) d δ M (by simpa using hj) (by rw[show i+(j+1)=i+1+j by lia];exact hI)
     rw[show i+1+j+1=i+(j+1)+1 by lia];exact this)
    rw[show i+(d::ds).length=i+1+ds.length by simp;lia]
    exact ih
   ·subst e
    exact Rn.pure (.inr ⟨_,rfl,h'⟩)
noncomputable def uA(n:Nat)(l:List D):Prop:=l.all (fO n)=false
noncomputable def Mv(a b:List Nat)(l:List D)(r:D):Prop:=(uA a.length l->r=.bl false)∧∀R:List (List Nat),l=R.map nT->(∀r∈R,r.length=a.length)->r=.bl (jB (aR a b) (bD a b) R)
noncomputable def N8(n:Nat)(M0:Mo)(pre:ao)(l:List D)(i:Nat)(δ:ao)(M:Mo):Prop:=(∃z,δ=pre++[z])∧M=M0∧(l.take i).all (fO n)=true
theorem Jv {a b:List Nat}{B k:Nat}{d:D} (h1:eZ a) (h2:eZ b) (hl:a.length=b.length) (s1:a.sum<2 ^ 28) (s2:b.sum<2 ^ 28) (h:Gd B k d) (hw:wt d≤1000000) :
  (qp a.length d=false->jC [nT a,nT b,d]=pure (.bl false))∧∀R:List (List Nat),d=nM R->R.length=a.length->(∀r∈R,r.length=a.length)->jC [nT a,nT b,d]=pure (.bl (jB (aR a b) (bD a b) R)):=by
 have lb:=xP h1 h2 s1 s2
 have l25:=h1.2.1
 have lf:(aR a b).length=a.length:=by simp[aR]
 have isT:=h.isT
 by_cases hT:pW d=false
 ·have e:jC [nT a,nT b,d]=pure (.bl false):=by simp[jC,dB,lb,isT,hT]
  exact⟨fun _=>e,fun R hd=>by rw[hd] at hT;cases hT⟩
 cases h with
 | @tup k l hg=>
   have hlen:=iT l
   have hwl:bf l+3≤1000000:=by simpa only[wt] using hw
   have ln:(rd (du (.int (l.length:Int)) (nD (aR a b).length)):DM D)=pure (.bl (!decide (l.length=(aR a b).length))):=qi l.length _
   by_cases hm:¬ l.length=(aR a b).length
   ·have lf':(rd (du (.int (l.length:Int)) (nD (aR a b).length)):DM D)=pure (.bl true):=by rw[ln,decide_eq_false hm];rfl
    refine⟨fun _=>by simp[jC,dB,lb,isT,hT,cL,lf'],fun R hd hR=>?_⟩
    exfalso;apply hm
    rw[lf,←hR]
    have:l=R.map nT:=D.tup.inj hd
    rw[this,List.length_map]
   have hm:l.length=(aR a b).length:=by lia
   have lt:(rd (du (.int (l.length:Int)) (nD (aR a b).length)):DM D)=pure (.bl false):=by rw[ln,decide_eq_true hm];rfl
   have key:∀ M,Rn (jC [nT a,nT b,.tup l]) M fun r M'=>M'=M∧Mv a b l r:=by
    intro M
    unfold jC dB fQ;dsimp only
    refine Rn.call rfl ?_
    have st:dI 6 [nT a,nT b,.tup l]=[some (nT a),some (nT b),some (.tup l),none,none,none]:=rfl
    rw[st]
    refine aK fun K hK=>?_
    simp[lb]
    rw[hK];clear hK K
    refine aK fun K hK=>?_
    simp[isT,hT,cL,lt]
    rw[hK];clear hK K
    refine iz fun K hK hR=>?_
    simp[fF]
    refine Rn.bind (xH (N8 a.length M [some (nT a),some (nT b),some (.tup l),some (nT (aR a b)),some (nT (bD a b))] l) (fun r M'=>r=.bl false∧M'=M∧uA a.length l) l 0 _ _ ⟨⟨_,rfl⟩,rfl,by simp⟩ (fun j r δ M5 hj hI=>?_)) (fun r M5 hI=>?_)
    ·obtain ⟨⟨z,rfl⟩,rfl,hall⟩:=hI
     obtain⟨hj',ej⟩:=List.getElem?_eq_some_iff.mp hj
     have hm':r∈l:=List.mem_of_getElem? hj
     have gr':=hg r hm'
     have wr:=iU hm'
     have isR:=gr'.isT
     rw[Nat.zero_add] at hall ⊢
     clear hK hR K
     rw[lu,au]
     refine iz fun K hK hR=>?_
     have bad:fO a.length r=false->uA a.length l:=fun hb=>by
      unfold uA
      rw[List.all_eq_false];exact⟨r,hm',by rw[hb];decide⟩
     have good:fO a.length r=true->(l.take (j+1)).all (fO a.length)=true:=fun hb=>by
      rw[List.take_succ_eq_append_getElem hj',List.all_append,hall,ej]
      simp[hb]
     by_cases hrT:pW r=false
     ·have rb:fO a.length r=false:=by cases r<;>first | rfl | cases hrT
      simp[isR,hrT,hR]
      exact Rn.pure (.inr ⟨_,rfl,rfl,rfl,bad rb⟩)
     rw[Bool.not_eq_false] at hrT
     obtain⟨ws,rfl⟩:∃ws,r=.tup ws:=by cases r<;>first | exact⟨_,rfl⟩ | cases hrT
     have rn:(rd (du (.int (ws.length:Int)) (nD (aR a b).length)):DM D)=pure (.bl (!decide (ws.length=(aR a b).length))):=qi ws.length _
     by_cases hrl:¬ ws.length=(aR a b).length
     ·have rf:(rd (du (.int (ws.length:Int)) (nD (aR a b).length)):DM D)=pure (.bl true):=by rw[rn,decide_eq_false hrl];rfl
      have rb:fO a.length (.tup ws)=false:=by simp only[fO];rw[decide_eq_false (by rw[←lf];exact hrl),Bool.false_and]
      simp[isR,hrT,cL,rf,hR]
      exact Rn.pure (.inr ⟨_,rfl,rfl,rfl,bad rb⟩)
     have hrl:ws.length=(aR a b).length:=by lia
     have rt:(rd (du (.int (ws.length:Int)) (nD (aR a b).length)):DM D)=pure (.bl false):=by rw[rn,decide_eq_true hrl];rfl
     simp[isR,hrT,cL,rt]
     rw[hK];clear hK hR K
     cases gr' with
     | @tup k' ws hgw=>
       have c1:=qD (x:=none) (rest:=[]) (l:=ws) (fe:=fun δ=>opt δ[0]?.join>>=fun a=>o8 [a]>>=fun a_1=>fW a_1>>=fun k=>if k=true then opt δ[0]?.join>>=fun a=>rd (zG a (.int 0)) else pure (.bl false)) (fun d=>.bl (qz d)) (by have:=iT ws;simp only[wt] at wr;lia) (fun d hd=>by
        have:=(hgw d hd).wl
        simp only[List.getElem?_cons_zero,Option.join_some,gU,au]
        exact this)
       have rb:fO a.length (.tup ws)=ws.all qz:=by simp only[fO];rw[decide_eq_true (by rw[←lf];exact hrl),Bool.true_and]
       simp[aP,bc]
       rw[c1,au,lq]
       by_cases hA:ws.all qz=false
       ·simp[hA]
        exact Rn.pure (.inr ⟨_,rfl,rfl,rfl,bad (by rw[rb,hA])⟩)
       ·rw[Bool.not_eq_false] at hA
        simp[hA]
        exact Rn.pure (.inl ⟨_,rfl,⟨_,rfl⟩,rfl,good (by rw[rb,hA])⟩)
    ·rcases hI with ⟨δ',rfl,⟨z,rfl⟩,rfl,hall⟩ | ⟨r,rfl,rfl,rfl,hbad⟩
     ·rw [Nat.zero_add,List.take_length] at hall
      obtain⟨R,hRl,hRn⟩:=rows_of hall
      rw[hK];clear hK hR K
      have hl1:R.length=a.length:=by rw[←lf,←hm,hRl,List.length_map]
      have et:D.tup l=nM R:=by rw[hRl];rfl
      have at':jV (nM R)=some (.fix (R.map nT)):=rfl
      rw[et]
      refine iz fun K hK hR=>?_
      have s1:=qy (R:=R) (by lia)
      have ne1:(rd (du (.tup ((R.map List.sum).map nD)) (nT (aR a b))):DM D)=pure (.bl (!decide (R.map List.sum=aR a b))):=Ml _ _
      simp[at',aP,bc]
      rw[s1,au,ne1]
      have fin:∀β:Bool,β=jB (aR a b) (bD a b) R->∃d,Fl.rt (.bl β)=.rt d∧M5=M5∧Mv a b l d:=by
       intro β hβ
       refine⟨_,rfl,rfl,fun hb=>(by unfold uA at hb;rw[hall] at hb;cases hb),fun R' hR' _=>?_⟩
       have:R'=R:=(List.map_inj_right fun _ _=>JZ).mp (hR'.symm.trans hRl)
       rw[this,hβ]
      by_cases hc:R.map List.sum=aR a b
      ·simp[hc]
       rw[hK];clear hK hR K
       have rg:fU [nD (aR a b).length]=some (.fix ((List.range (aR a b).length).map nD)):=uv (n:=(aR a b).length) (by lia)
       have hRn':∀r∈R,r.length=(aR a b).length:=fun r hr=>by rw[lf];exact hRn r hr
       have cc:=lN (x:=none) (rest:=[some (nM R)]) (as:=List.range (aR a b).length) (fe:=fun δ=>opt δ[1]?.join>>=fun a=>opt (jV a)>>=fun a=>dj (dC (gN 0) (fun _=>pure true) (bh fun δ=>opt δ[0]?.join>>=fun a=>opt δ[1]?.join>>=fun b=>rd (cF a b)) a [none,δ[0]?.getD none] [])>>=fun a=>rd (lH [D.lst a.snd])) nD (fun y=>nD ((R.map fun r=>ga r y).sum)) (by simp;lia) (fun y hy=>by
        simp only[bR,at',Option.getD_some,lA]
        rw[pO hRn' (by lia) (List.mem_range.mp hy),au]
        exact yG _)
       have ec:(List.range (aR a b).length).map (fun y=>nD ((R.map fun r=>ga r y).sum))=(cols (aR a b).length R).map nD:=by unfold cols;rw[List.map_map];rfl
       rw[ec] at cc
       have e3:(rd (dF (.tup ((cols (aR a b).length R).map nD)) (nT (bD a b))):DM D)=pure (.bl (decide (cols (aR a b).length R=bD a b))):=Mi _ _
       simp[cL,rg,aP,bc]
       rw[cc,au,e3,au]
       exact Rn.pure (fin _ (by unfold jB;rw[decide_eq_true hc,Bool.true_and]))
      ·simp[hc,hR]
       exact Rn.pure (fin false (by unfold jB;rw[decide_eq_false hc,Bool.false_and]))
     ·rw[hR]
      refine Rn.pure ⟨_,rfl,rfl,fun _=>rfl,fun R hRl hRn=>?_⟩
      exfalso
      unfold uA at hbad
      rw[hRl] at hbad
      have:(R.map nT).all (fO a.length)=true:=by
       rw[List.all_eq_true]
       intro x hx
       obtain⟨r,hr,rfl⟩:=List.mem_map.mp hx
       show (decide ((r.map nD).length=a.length)&&(r.map nD).all qz)=true
       rw[Bool.and_eq_true,decide_eq_true_eq]
       exact⟨by simpa using hRn r hr,by rw[List.all_eq_true];intro y hy;obtain⟨m,_,rfl⟩:=List.mem_map.mp hy;exact decide_eq_true (Int.natCast_nonneg m)⟩
      rw[this] at hbad;cases hbad
   have eqn:∀v:D,(∀M,Rn (jC [nT a,nT b,.tup l]) M fun r M'=>r=v∧M'=M)->jC [nT a,nT b,.tup l]=pure v:=fun v hv=>Im hv
   refine⟨fun hr=>eqn _ fun M=>(key M).mono fun r M' ⟨e1,e2,_⟩=>⟨e2 ?_,e1⟩,fun R hd hRl hRn=>eqn _ fun M=>(key M).mono fun r M' ⟨e1,_,e3⟩=>⟨e3 R (D.tup.inj hd) hRn,e1⟩⟩
   simp only[qp] at hr
   rw[decide_eq_true (by rw[←lf];exact hm),Bool.true_and] at hr
   exact hr
 |_=>exact absurd rfl hT
noncomputable def vA:=aL 2 2 (jF o7)
theorem Gd.ip {B n:Nat}{d:D} (h:Gd B n d) (m:Nat):vA [d,nD m]=pure (.bl (m9 m d)):=by
 by_cases hW:jm d=true
 ·cases h with
  | @int _ i hi=>
    have e2:(rd (Dl (.int i) (nD m)):DM D)=pure (.bl (decide (i<m))):=Ky i m
    by_cases h0:0≤i
    ·simp[vA,jF,(Gd.int (n:=0) hi).iw,jm,h0,e2,m9]
    ·simp[vA,jF,(Gd.int (n:=0) hi).iw,jm,h0,m9]
  |_=>cases hW
 ·have e:m9 m d=false:=by cases d<;>first | rfl | (exact absurd rfl hW)
  rw[Bool.not_eq_true] at hW
  simp[vA,jF,h.iw,hW,e]
noncomputable def vB:=aL 3 3 (fZ o8)
theorem Gd.wi {B n:Nat}{d:D} (h:Gd B n d) {m:Nat} (hm:1≤m):vB [d,.int 0,nD (m - 1)]=pure (.bl (m9 m d)):=by
 by_cases hW:jm d=true
 ·cases h with
  | @int _ i hi=>
    have e2:(rd (JF (.int i) (nD (m-1))):DM D)=pure (.bl (decide (i<m))):=by
     refine (Nx i _).trans ?_
     congr 2
     rw[Bool.eq_iff_iff,decide_eq_true_eq,decide_eq_true_eq]
     lia
    by_cases h0:0≤i
    ·simp[vB,fZ,(Gd.int (n:=0) hi).lw,jm,h0,e2,m9]
    ·simp[vB,fZ,(Gd.int (n:=0) hi).lw,jm,h0,m9]
  |_=>cases hW
 ·have e:m9 m d=false:=by cases d<;>first | rfl | (exact absurd rfl hW)
  rw[Bool.not_eq_true] at hW
  simp[vB,fZ,h.lw,hW,e]
theorem vX {m:Nat}:∀ {l:List D},l.all (m9 m)=true->∃ ps:List Nat,l=ps.map nD∧∀ x∈ps,x<m
 |[],_=>⟨[],rfl,fun _ h=>by cases h⟩
 | d::l,h=>by
   rw[List.all_cons,Bool.and_eq_true] at h
   obtain⟨ps,rfl,hp⟩:=vX h.2
   have h1:=h.1
   cases d with
   | int i=>
     simp only[m9,Bool.and_eq_true,decide_eq_true_eq] at h1
     refine⟨i.toNat::ps,?_,fun x hx=>?_⟩
     ·have:nD i.toNat=.int i:=by unfold nD;congr 1;lia
      simp[this]
     ·rcases List.mem_cons.mp hx with rfl | hx
      ·lia
      ·exact hp x hx
   |_=>cases h1
noncomputable def wk(ps:List Nat):Bool:=(List.range (ps.length-1)).all fun i=>decide (ga ps i<ga ps (i+1))
noncomputable def Fri:=aL 1 1 mq
theorem KH{ps:List Nat}(h:ps.length≤1000):Fri [nT ps]=pure (.bl (wk ps)):=by
 by_cases h0:ps.length=0
 ·have:ps=[]:=List.length_eq_zero_iff.mp h0
  subst this
  have rg:uW [D.int 1,nD ([]:List Nat).length]=some (.fix []):=rfl
  have rl:(rd (dW [nT []]):DM D)=pure (nD ([]:List Nat).length):=cL []
  have al:(rd (pM [.lst []]):DM D)=pure (.bl true):=bH fun _=>rfl
  simp[Fri,mq,rl,rg,aP,bc,aZ,al]
  rfl
 have rg:uW [D.int 1,nD ps.length]=some (.fix ((List.range (ps.length-1)).map fun k=>nD (1+k))):=Ip (a:=1) (b:=ps.length) (by decide) (by lia)
 have c3:=lN (x:=none) (rest:=[some (nT ps)]) (as:=List.range (ps.length-1)) (fe:=fun δ=>opt δ[1]?.join>>=fun a=>opt δ[0]?.join>>=fun b=>rd (o4 b (D.int 1))>>=fun b=>rd (cF a b)>>=fun x=>opt δ[1]?.join>>=fun a=>opt δ[0]?.join>>=fun b=>rd (cF a b)>>=fun y=>rd (Dl x y)) (fun k=>nD (1+k)) (fun k=>.bl (decide (ga ps k<ga ps (k+1)))) (by simp;lia) (fun k hk=>by
  have hk:=List.mem_range.mp hk
  have s1:(rd (o4 (nD (1+k)) (.int 1)):DM D)=pure (nD k):=by rw[show D.int 1=nD 1 from rfl,Eb (by lia),Nat.add_sub_cancel_left]
  simp only[bR,s1]
  simp only[Bl (l:=ps) (i:=k) (by lia),au,Bl (l:=ps) (i:=1+k) (by lia),Kz,show ga ps (1+k)=ga ps (k+1) by rw[Nat.add_comm]])
 have al2:(rd (pM [.lst ((List.range (ps.length-1)).map fun k=>.bl (decide (ga ps k<ga ps (k+1))))]):DM D)=pure (.bl (wk ps)):=by
  have:=yz ((List.range (ps.length-1)).map fun k=>decide (ga ps k<ga ps (k+1)))
  rw[List.map_map] at this
  refine Eq.trans ?_ (this.trans ?_)
  ·rfl
  ·unfold wk;rw[List.all_map];rfl
 simp[Fri,mq,cL,rg,aP,bc]
 rw[c3,au,al2]
theorem Em (ns:List Int):(lG ns).Nodup:=by
 unfold lG
 rw[(gA _).1.nodup_iff]
 have:∀ (l acc:List Int),acc.Nodup->(l.foldl PyProof.Rows.step_dedup acc).Nodup:=by
  intro l
  induction l with
  |nil=>intro acc h;exact h
  | cons a l ih=>
    intro acc h
    rw[List.foldl_cons,←LS.yS]
    by_cases q:a∈acc
    ·rw[if_pos q];exact ih acc h
    ·rw[if_neg q]
     refine ih _ (List.nodup_append.mpr ⟨h,by simp,fun x hx y hy e=>?_⟩)
     rw[List.mem_singleton.mp hy] at e
     exact q (e ▸ hx)
 exact this ns [] (by simp)
theorem rF:∀ {l acc:List Int},(acc++l).Nodup->l.foldl PyProof.Rows.step_dedup acc=acc++l
 |[],acc,_=>by simp
 | x::l,acc,h=>by
   have hx:(acc.any (·== x))=false:=by
    rw[List.any_eq_false]
    intro y hy
    have:=(List.nodup_append.mp h).2.2 y hy x (.head _)
    simpa using this
   rw[List.foldl_cons,PyProof.Rows.step_dedup,hx,if_neg (by decide),rF (by simpa using h)]
   simp
theorem KQ {ps:List Nat}:wk ps=true ↔ ps.Pairwise (·< ·):=by
 unfold wk
 rw[List.all_eq_true,List.pairwise_iff_getElem]
 constructor
 ·intro h i j hi hj hij
  have step:∀ k,i + k + 1<ps.length->ga ps i<ga ps (i + k + 1):=by
   intro k
   induction k with
   |zero=>intro hk;exact of_decide_eq_true (h i (List.mem_range.mpr (by lia)))
   |succ k ih=>
     intro hk
     have a:=ih (by lia)
     have b:=of_decide_eq_true (h (i+k+1) (List.mem_range.mpr (by lia)))
     exact Nat.lt_trans a b
  have:=step (j-i-1) (by lia)
  rw[show i+(j-i-1)+1=j by lia,tY hi,tY hj] at this
  exact this
 ·intro h i hi
  have hi:=List.mem_range.mp hi
  rw[decide_eq_true_eq,tY (by lia),tY (by lia)]
  exact h i (i+1) (by lia) (by lia) (by lia)
theorem KR (ps:List Nat):decide ((ps.map fun n:Nat=>(n:Int))=lG (ps.map fun n:Nat=>(n:Int)))=wk ps:=by
 rw[Bool.eq_iff_iff,decide_eq_true_eq,KQ]
 have pe:=gA ((ps.map fun n:Nat=>(n:Int)).foldl PyProof.Rows.step_dedup [])
 constructor
 ·intro h
  have so:(ps.map fun n:Nat=>(n:Int)).Pairwise (·≤ ·):=by rw[h];exact pe.2
  have nd:(ps.map fun n:Nat=>(n:Int)).Nodup:=by rw[h];exact Em _
  rw[List.pairwise_map] at so
  have nd:ps.Pairwise fun a b=>((a:Nat):Int)≠(b:Int):=by
   have:=nd
   unfold List.Nodup at this
   rw[List.pairwise_map] at this
   exact this
  exact (so.and nd).imp fun {a b} h=>by have:=h.1;have:=h.2;lia
 ·intro h
  have nd:(ps.map fun n:Nat=>(n:Int)).Nodup:=by
   unfold List.Nodup
   rw[List.pairwise_map]
   exact h.imp fun {a b} h=>by lia
  have e:=rF (l:=ps.map fun n:Nat=>(n:Int)) (acc:=[]) (by simpa using nd)
  rw[List.nil_append] at e
  rw[e] at pe
  unfold lG
  rw[e]
  refine mL pe.1.symm ?_ pe.2
  rw[List.pairwise_map]
  exact h.imp fun {a b} h=>by lia
noncomputable def wU:=aL 2 2 (cN vA Fri)
noncomputable def wO:=aL 2 2 (dR vB)
theorem tE:∀l:List Nat,bf (l.map nD)=1923*l.length
 |[]=>rfl
 |a::l=>by have:=tE l;simp only[List.map_cons,bf,nD,wt,List.length_cons] at this ⊢;lia
theorem Ke {B k n:Nat}{d:D} (h:Gd B k d) (hw:wt d≤115900) (hn:1≤n):∃ β:Bool,wU [d,nD n]=pure (.bl β)∧wO [nD n,d]=pure (.bl β)∧(β=true->∃ ps:List Nat,d=nT ps∧(∀ x∈ps,x<n)∧ps.length≤60):=by
 have isT:=h.isT
 by_cases hT:pW d=false
 ·exact⟨false,by simp[wU,cN,isT,hT],by simp[wO,dR,isT,hT],fun z=>by cases z⟩
 cases h with
 | @tup k l hl=>
   have hlen:=iT l
   have hwl:bf l+3≤115900:=by simpa only[wt] using hw
   have c1:=qD (x:=none) (rest:=[some (nD n)]) (l:=l) (fe:=fun δ=>opt δ[0]?.join>>=fun a=>opt δ[1]?.join>>=fun b=>vA [a,b]) (fun d=>.bl (m9 n d)) (by lia) (fun d hd=>by
    simp only[bR]
    exact (hl d hd).ip n)
   have s1:(rd (o4 (nD n) (.int 1)):DM D)=pure (nD (n-1)):=Eb (b:=1) hn
   have c2:=qD (x:=none) (rest:=[some (nD n)]) (l:=l) (fe:=fun δ=>opt δ[0]?.join>>=fun a=>opt δ[1]?.join>>=fun b=>rd (o4 b (.int 1))>>=fun b=>vB [a,.int 0,b]) (fun d=>.bl (m9 n d)) (by lia) (fun d hd=>by
    simp only[bR,s1]
    exact (hl d hd).wi hn)
   by_cases hA:l.all (m9 n)=false
   ·refine⟨false,?_,?_,fun z=>by cases z⟩
    ·simp[wU,cN,isT,hT,aP,bc]
     simp[c1,lq,hA]
    ·simp[wO,dR,isT,hT,aP,bc]
     simp[c2,lq,hA]
   rw[Bool.not_eq_false] at hA
   obtain⟨ps,he,hp⟩:=vX hA
   have et:D.tup l=nT ps:=by rw[he];rfl
   have l60:ps.length≤60:=by rw[he,tE] at hwl;lia
   refine⟨wk ps,?_,?_,fun _=>⟨ps,et,hp,l60⟩⟩
   ·have ri:=KH (ps:=ps) (by lia)
    rw[←et] at ri
    simp[wU,cN,isT,hT,aP,bc]
    simp[c1,lq,hA,ri]
   ·have ls:(rd (fun M=>(eY [.tup l] M).map D.lst):DM D)=pure (.lst l):=bH fun M=>rfl
    have ss:By [.tup l]=some ((lG (ps.map fun n:Nat=>(n:Int))).map D.int):=by
     rw[et]
     show (intsOf (ps.map nD)).bind _=_
     rw[lQ,Option.bind_some,if_pos (by simpa using l60)]
    have eq:(rd (dF (.lst l) (.lst ((lG (ps.map fun n:Nat=>(n:Int))).map D.int))):DM D)=pure (.bl (wk ps)):=bH fun M=>by
     have e:l=(ps.map fun n:Nat=>(n:Int)).map D.int:=by rw[he,List.map_map];rfl
     have d:=jK (ps.map fun n:Nat=>(n:Int))
     have q:=lO (ps.map fun n:Nat=>(n:Int)) (lG (ps.map fun n:Nat=>(n:Int)))
     rw[KR] at q
     rw[e]
     simp only[dF,L3.eqB,eqP,toPy,jM,Option.map_some,PyData.canLay0,lay_ints,PyData.depth,PyData.eqv]
     rw[q,if_pos (by rw[Bool.and_self,Bool.true_and];exact decide_eq_true (by lia))]
     rfl
    simp[wO,dR,isT,hT,aP,bc]
    simp[c2,lq,hA,ls,ss,eq]
 |_=>exact absurd rfl hT
theorem JX{R:List (List Nat)}{n:Nat}(hl:R.length=n)(hR:∀r∈R,r.length=n):nM R=jn n (fun x y=>ga (gr R x) y):=by
 unfold nM jn
 congr 1
 apply List.ext_getElem?
 intro i
 by_cases hi:i<n
 ·rw[List.getElem?_map,List.getElem?_eq_getElem (by lia),List.getElem?_map,List.getElem?_range hi]
  simp only[Option.map_some,Option.some.injEq]
  rw[mW (hR _ (List.getElem_mem (by lia)))]
  unfold row fn
  congr 2
  refine List.map_congr_left fun y _=>?_
  rw[Lp (by lia)];rfl
 ·rw[List.getElem?_eq_none (by simp;lia),List.getElem?_eq_none (by simp;lia)]
noncomputable def Ca:=aL 1 1 wZ
theorem J7{n:Nat}{A:Nat->Nat->Nat}(hn:n≤1000):Ca [jn n A]=pure (nD (parts n A)):=by
 have en:tV [jn n A]=some (.fix ((List.range n).map fun j=>.tup [nD j,.tup (row n (A j))])):=by
  show some (Itn.fix (iG 0 ((List.range n).map fun x=>D.tup (row n (A x)))))=_
  rw[List.range_eq_range',n8]
 simp[Ca,wZ,aP,bc,en]
 rw[vL (R:=fun x=>nD (S n (A x)-A x x)) hn (fun j hj=>?_) (fun l=>rd (lH [.lst l])) (fun _=>rfl)]
 ·have:((List.range n).map fun x=>nD (S n (A x)-A x x))=((List.range n).map fun x=>S n (A x)-A x x).map nD:=by rw[List.map_map];rfl
  rw[this,yG,pL];rfl
 ·simp[Ac,pX hj,je (jD hj)]
noncomputable def mj:=aL 3 5 (jY gF qX qZ)
noncomputable def gD:=aL 3 7 (dU gF qX qZ wU BX Ca)
noncomputable def nP:=aL 3 3 (cD wO jC BL wN)
structure Two(a b:List Nat):Prop where
 h1:eZ a
 h2:eZ b
 hl:a.length=b.length
 s1:a.sum<2^28
 s2:b.sum<2^28
theorem Hc{a b:List Nat}{B k:Nat}{d:D}(T:Two a b)(h:Gd B k d)(hw:wt d≤1000000):∃β:Bool,qZ [nT (aR a b),nT (bD a b),d]=pure (.bl β)∧jC [nT a,nT b,d]=pure (.bl β)∧(β=true->∃R:List (List Nat),d=nM R∧R.length=a.length∧∀r∈R,r.length=a.length):=by
 have lf:(aR a b).length=a.length:=by simp[aR]
 have l25:=T.h1.2.1
 obtain⟨i1,i2⟩:=Jv T.h1 T.h2 T.hl T.s1 T.s2 h hw
 by_cases hr:qp a.length d=false
 ·exact⟨false,Lq h hw (by lia) (by rw[lf];exact hr),i1 hr,fun z=>by cases z⟩
 rw[Bool.not_eq_false] at hr
 obtain⟨R,rfl,hRl,hRn⟩:=Mm hr
 have ar:=h.ar hw (aR a b).length
 rw[lf,hr,←lf] at ar
 exact⟨jB (aR a b) (bD a b) R,JC (by lia) (by lia) (fun r hr=>by rw[lf];exact hRn r hr) ar,i2 R rfl hRl hRn,fun _=>⟨R,rfl,hRl,hRn⟩⟩
theorem HF{a b:List Nat}{B k:Nat}{d:D}(T:Two a b)(h:Gd B k d)(hw:wt d≤1000000):∃β:Bool,mj [nT a,nT b,d]=pure (.bl β)∧jC [nT a,nT b,d]=pure (.bl β):=by
 obtain⟨β,e1,e2,_⟩:=Hc T h hw
 refine⟨β,?_,e2⟩
 simp[mj,jY,yJ T.h1 T.h2 T.hl,xf T.h1 T.h2 T.s1 T.s2,e1]
theorem zK {a b:List Nat}{B k:Nat}{d:D} (T:Two a b) (h:Gd B k d) (hw:wt d≤115900):∃ β:Bool,gD [nT a,nT b,d]=pure (.bl β)∧nP [nT a,nT b,d]=pure (.bl β):=by
 have r2:=yJ T.h1 T.h2 T.hl
 have br:=xf T.h1 T.h2 T.s1 T.s2
 have l25:=T.h1.2.1
 have lf:(aR a b).length=a.length:=by simp[aR]
 have lf2:(bD a b).length=a.length:=by simp[bD,T.hl]
 have isT:=h.isT
 by_cases hT:pW d=false
 ·exact⟨false,by simp[gD,dU,r2,isT,hT],by simp[nP,cD,isT,hT]⟩
 cases h with
 | @tup k l hg=>
   have hwl:bf l+3≤115900:=by simpa only[wt] using hw
   have l2:(rd (du (.int (l.length:Int)) (.int 2)):DM D)=pure (.bl (!decide (l.length=2))):=qi l.length 2
   by_cases h2:¬ l.length=2
   ·have l2f:(rd (du (.int (l.length:Int)) (.int 2)):DM D)=pure (.bl true):=by rw[l2,decide_eq_false h2];rfl
    exact⟨false,by simp[gD,dU,r2,isT,hT,l2f],by simp[nP,cD,isT,hT,l2f]⟩
   have h2:l.length=2:=by lia
   obtain⟨p,j,rfl⟩:∃p j,l=[p,j]:=by
    match l,h2 with
    |[p,j],_=>exact⟨p,j,rfl⟩
   clear l2 h2
   have wp:=iU (a:=[p,j]) (x:=p) (by simp)
   have wj:=iU (a:=[p,j]) (x:=j) (by simp)
   have i0:(rd (cF (.tup [p,j]) (.int 0)):DM D)=pure p:=oG (i:=0) rfl
   have i1:(rd (cF (.tup [p,j]) (.int 1)):DM D)=pure j:=oG (i:=1) rfl
   obtain⟨β1,p1,p2,p3⟩:=Ke (n:=a.length) (hg p (by simp)) (by lia) T.h1.1
   obtain⟨β2,j1,j2,j3⟩:=Hc T (hg j (by simp)) (by lia)
   rw[←lf] at p1
   cases β1 with
   |false=>exact⟨false,by simp[gD,dU,r2,isT,hT,br,cL,p1],by simp[nP,cD,isT,hT,cL,i0,p2]⟩
   | true=>
     cases β2 with
     |false=>exact⟨false,by simp[gD,dU,r2,isT,hT,br,cL,p1,j1],by simp[nP,cD,isT,hT,cL,i0,i1,p2,j2]⟩
     |true=>
       obtain⟨ps,rfl,hp,hpl⟩:=p3 rfl
       obtain⟨R,rfl,hRl,hRn⟩:=j3 rfl
       have mi:=JR (f:=aR a b) (s:=bD a b) (ps:=ps) (by lia) (by lia) (fun i hi=>by rw[lf];exact hp i hi)
       have ex:=Jo T.h1 T.h2 T.hl T.s1 T.s2 (ps:=ps) (by lia) hp
       have em:=JX hRl hRn
       have pd:=J7 (n:=a.length) (A:=fun x y=>ga (gr R x) y) (by lia)
       have lp:=HQ (n:=a.length) (A:=fun x y=>ga (gr R x) y) (by lia)
       rw[←em] at pd lp
       have ee:(rd (dF (.int (uf (aR a b) (bD a b) ps)) (nD (parts a.length fun x y=>ga (gr R x) y))):DM D)=pure (.bl (decide (uf (aR a b) (bD a b) ps=(parts a.length fun x y=>ga (gr R x) y:Nat)))):=Hl _ _
       refine⟨decide (uf (aR a b) (bD a b) ps=(parts a.length fun x y=>ga (gr R x) y:Nat)),?_,?_⟩
       ·simp[gD,dU,r2,isT,hT,br,cL,p1,j1,mi,pd,ee]
       ·simp[nP,cD,isT,hT,cL,i0,i1,p2,j2,ex,lp,ee]
 |_=>exact absurd rfl hT
noncomputable def Bad(d:D):Prop:=zm [d]=pure (.bl false)
theorem KN{d:D}(h:Bad d):wQ [d]=raise "NoLot":=by
 have:Df (fun _=>pure (D.str "a lot is a tuple of one to ")) (fun δ=>rd (FZ (D.int 25))) (fun _=>pure (D.str " whole numbers from 0 on, not all 0")) [some d]=pure (D.str "a lot is a tuple of one to 25 whole numbers from 0 on, not all 0"):=by
  rfl
 unfold Bad at h
 simp[wQ,gH,h]
 rw[this];rfl
theorem Ir{a b:List Nat}(h1:eZ a)(h2:eZ b)(hl:a.length≠b.length):gF [nT a,nT b]=raise "Unlike":=by
 have hl:¬ ((a.length:Int)=(b.length:Int)):=by lia
 have l1:(rd (dW [nT a]):DM D)=pure (.int (a.length:Int)):=by simp[nT]
 have l2:(rd (dW [nT b]):DM D)=pure (.int (b.length:Int)):=by simp[nT]
 simp[gF,cI,qm h1,qm h2,l1,l2,hl]
theorem KJ{a:List Nat}{e:D}(h1:eZ a)(h:Bad e):gF [nT a,e]=raise "NoLot":=by
 simp[gF,cI,qm h1,KN h]
theorem IV{ns:List Str}{n i:Nat}{fb:ao->DM Fl}{fh:Str->ao->DM Fl}{δ:ao}{c:Str}{d:D}(h:fb δ=raise c)(hc:ns.contains c=true)(hh:fh c ((List.replicate n none).set i (some (.exn 0)))=pure (.rt d)):BK ns n i fb fh δ=pure (.rt d):=by
 funext M
 unfold BK
 rw[h]
 simp only[raise,hc,if_true,hh]
 rfl
theorem Fe{n:Nat}(h1:1≤n)(h2:n≤25):Bad (nT (List.replicate n 0)):=by
 unfold Bad
 rw[CV (by simpa using h1) (by simpa using h2)]
 simp
noncomputable def wM:=aL 3 5 (jW mj gD rm)
theorem Hd {c:Str}{v:D}{d e:D}{w:Nat} (hw:w<3) (hr:gF [d,e]=raise c) (hc:(c = "NoLot"∧v=.str "lot")∨(c = "Unlike"∧v=.str "unlike")):wM [nD w,d,e]=pure v:=by
 have h1:mj [d,e,.non]=raise c:=by simp[mj,jY,hr]
 have h2:gD [d,e,.non]=raise c:=by simp[gD,dU,hr]
 have h3:rm [d,e]=raise c:=by simp[rm,nU,hr]
 have e0:(rd (dF (nD w) (.int 0)):DM D)=pure (.bl (decide (w=0))):=qg w 0
 have e1:(rd (dF (nD w) (.int 1)):DM D)=pure (.bl (decide (w=1))):=qg w 1
 have k:jW mj gD rm [some (nD w),some d,some e,none,none]=pure (.rt v):=by
  unfold jW kO;dsimp only
  have t:∀{f g:ao->DM Fl}{δ:ao}{x:D},f δ=pure (.rt x)->mK f g δ=pure (.rt x):=fun {f g δ x} h=>by rw[wH,h,au]
  refine t (IV (c:=c) ?_ ?_ ?_)
  ·by_cases w0:w=0
   ·subst w0
    have e0:(rd (dF (nD 0) (.int 0)):DM D)=pure (.bl true):=e0
    simp[e0,h1]
   ·by_cases w1:w=1
    ·subst w1
     have e0:(rd (dF (nD 1) (.int 0)):DM D)=pure (.bl false):=e0
     have e1:(rd (dF (nD 1) (.int 1)):DM D)=pure (.bl true):=e1
     simp[e0,e1,h2]
    ·simp[e0,e1,w0,w1,h3]
  ·rcases hc with ⟨rfl,_⟩ | ⟨rfl,_⟩<;>decide
  ·rcases hc with ⟨rfl,rfl⟩ | ⟨rfl,rfl⟩
   ·funext M;rfl
   ·funext M;rfl
 simp[wM,k]
structure JM(n:Nat)(R:List (List Nat)):Prop where
 n1:1≤n
 n5:n≤5
 len:R.length=n
 row:∀r∈R,r.length=n
 bd:∀r∈R,∀x∈r,x≤2^60
noncomputable def Tg(d:D):Prop:=Gd (2^61) 8 d∧wt d≤68000
theorem Hs(r:List Nat):wt (nT r)=1923*r.length+3:=by unfold nT;simp only[wt,tE]
theorem yU {n:Nat}:∀ {R:List (List Nat)},(∀ r∈R,r.length=n)->bf (R.map nT)=R.length * (1923 * n + 5)
 |[],_=>by simp[bf]
 |r::R,h=>by
   have a:=yU fun r hr=>h r (.tail _ hr)
   have e:(R.length+1)*(1923*n+5)=R.length*(1923*n+5)+(1923*n+5):=Nat.succ_mul _ _
   simp only[List.map_cons,bf,Hs,h r (.head _),a,List.length_cons]
   rw[e];lia
theorem Gd.nats{ps:List Nat}{B:Nat}(h:∀x∈ps,x≤B):Gd B 1 (nT ps):=.tup fun x hx=>by
 obtain⟨n,hn,rfl⟩:=List.mem_map.mp hx
 exact .int (by have:=h n hn;simpa using this)
theorem JM.g1{n:Nat}{R:List (List Nat)}(h:JM n R):∀x∈R.map nT,Gd (2^60) 1 x:=fun x hx=>by
 obtain⟨r,hr,rfl⟩:=List.mem_map.mp hx
 exact Gd.nats (h.bd r hr)
theorem JM.gd{n:Nat}{R:List (List Nat)}(h:JM n R):Gd (2^60) 2 (nM R):=.tup h.g1
theorem JM.w{n:Nat}{R:List (List Nat)}(h:JM n R):bf (R.map nT)≤48100:=by
 rw[yU h.row,h.len]
 have:=Nat.mul_le_mul h.n5 (show 1923*n+5≤9620 by have:=h.n5;lia)
 lia
theorem JM.tg{n:Nat}{R:List (List Nat)}(h:JM n R):Tg (nM R):=⟨h.gd.mono (by decide) (by decide),by have:=h.w;unfold nM;simp only[wt];lia⟩
theorem JM.rw{n:Nat}{R:List (List Nat)}(h:JM n R):∀x∈R.map nT,wt x≤9618:=fun x hx=>by
 obtain⟨r,hr,rfl⟩:=List.mem_map.mp hx
 rw[Hs,h.row r hr];have:=h.n5;lia
noncomputable def Rw(x:D):Prop:=Gd (2^61) 7 x∧wt x≤9620
theorem yV:∀ {l:List D},(∀ x∈l,Rw x)->bf l≤9622 * l.length
 |[],_=>by simp[bf]
 |a::l,h=>by
   have a1:=(h a (.head _)).2
   have a2:=yV fun x hx=>h x (.tail _ hx)
   simp only[bf,List.length_cons];lia
theorem nO{l:List D}(h:∀x∈l,Rw x)(hn:l.length≤6):Tg (.tup l):=⟨.tup fun x hx=>(h x hx).1,by have:=yV h;simp only[wt];lia⟩
theorem K7{l:List D}(h:∀x∈l,Rw x)(hn:l.length≤6):Tg (.lst l):=⟨.lst fun x hx=>(h x hx).1,by have:=yV h;simp only[wt];lia⟩
theorem zX{r:List Int}(hl:r.length≤5)(hb:∀i∈r,i.natAbs≤2^61):Rw (.tup (r.map D.int))∧Rw (.lst (r.map D.int)):=by
 have w:∀r:List Int,bf (r.map D.int)=1923*r.length:=fun r=>by
  induction r with
  |nil=>simp[bf]
  |cons a l ih=>simp only[List.map_cons,bf,wt,ih,List.length_cons];lia
 have g:∀x∈r.map D.int,Gd (2^61) 6 x:=fun x hx=>by
  obtain⟨i,hi,rfl⟩:=List.mem_map.mp hx
  exact .int (hb i hi)
 exact⟨⟨.tup g,by simp only[wt,w];lia⟩,⟨.lst g,by simp only[wt,w];lia⟩⟩
theorem qM{r:List Nat}(hl:r.length≤5)(hb:∀i∈r,i≤2^60):Rw (nT r)∧Rw (.lst (r.map nD)):=by
 have:=zX (r:=r.map fun k:Nat=>(k:Int)) (by rw[List.length_map];exact hl) (fun i hi=>by
  obtain⟨k,hk,rfl⟩:=List.mem_map.mp hi
  have:=hb k hk
  rw[Int.natAbs_natCast];lia)
 rw[List.map_map] at this
 exact this
theorem JM.rw1{n:Nat}{R:List (List Nat)}(h:JM n R):∀x∈R.map nT,Rw x:=fun x hx=>by
 obtain⟨r,hr,rfl⟩:=List.mem_map.mp hx
 exact (qM (by rw[h.row r hr];exact h.n5) (h.bd r hr)).1
theorem zx{l:List D}{a b:Option Int}{x:D}(h:x∈cutD l a b):x∈l:=List.mem_of_mem_drop (List.mem_of_mem_take h)
theorem Hv{l:List D}{a b:Option Int}:(cutD l a b).length≤l.length:=by unfold cutD;rw[List.length_take,List.length_drop];lia
theorem Lg{l:List D}:(cutD l none (some 1)).length≤1:=by
 unfold cutD
 have:HT.sIx l.length l.length (some 1)=min 1 l.length:=HT.sIx_nat _ _ 1
 rw[this,List.length_take];lia
noncomputable def Cd:=aL 2 13 (pA jR q9 (qY 8))
noncomputable def Oi(M0:Mo)(p n:Nat)(i:Nat)(δ:ao)(l:List D)(M:Mo):Prop:=(∃z,δ=[z,some (.ref p),some (nD n)])∧(∃ts:List Nat,l=ts.map nD∧ts.length=i∧∀t∈ts,t<n)∧cC p M∧Sb p M0 M
structure Rs(q n b:Nat)(g:Nat->List Int)(M:Mo):Prop where
 at_:∀x,x<n->M[q+x]?=some (.lst ((g x).map D.int))
 len:∀x,x<n->(g x).length=n
 bd:∀x,x<n->∀i∈g x,i.natAbs≤b
theorem Rs.set {q n b v:Nat}{g:Nat->List Int}{M:Mo} (h:Rs q n b g M) {x y:Nat}{w:Int} (hx:x<n) (hy:y<n) (hw:w.natAbs≤v) (hv:b≤v):iR (.ref (q + x)) (nD y) (.int w) M=some (.ok (),M.set (q + x) (.lst (((g x).set y w).map D.int)))∧Rs q n v (fun i=>if i=x then (g x).set y w else g i) (M.set (q + x) (.lst (((g x).set y w).map D.int))):=by
 have hr:=h.at_ x hx
 refine⟨?_,⟨fun i hi=>?_,fun i hi=>?_,fun i hi z hz=>?_⟩⟩
 ·have:=fM (v:=.int w) hr (i:=y) (by rw[List.length_map,h.len x hx];exact hy)
  rw[List.map_set]
  exact this
 ·by_cases e:i=x
  ·subst e
   rw[List.getElem?_set_self (List.getElem?_eq_some_iff.mp hr).1]
   simp
  ·rw[List.getElem?_set_ne (by lia),h.at_ i hi]
   simp[e]
 ·split
  ·rw[List.length_set];exact h.len x hx
  ·exact h.len i hi
 ·split at hz
  ·rcases List.mem_or_eq_of_mem_set hz with k | k
   ·exact Nat.le_trans (h.bd x hx z k) hv
   ·subst k;exact hw
  ·exact Nat.le_trans (h.bd i hi z hz) hv
theorem Rs.sb{q n b p:Nat}{g:Nat->List Int}{M M':Mo}(h:Rs q n b g M)(s:Sb p M M')(hp:p<q):Rs q n b g M':=⟨fun x hx=>s.at (by lia) (h.at_ x hx),h.len,h.bd⟩
theorem Rs.ix{q n b:Nat}{g:Nat->List Int}{M:Mo}(h:Rs q n b g M){x y:Nat}(hx:x<n)(hy:y<n):∃i:Int,cF (.ref (q+x)) (nD y) M=some (.int i)∧i.natAbs≤b∧i∈g x:=by
 have hl:y<(g x).length:=by rw[h.len x hx];exact hy
 exact⟨(g x)[y],fX (h.at_ x hx) (by rw[List.getElem?_map,List.getElem?_eq_getElem hl];rfl),h.bd x hx _ (List.getElem_mem hl),List.getElem_mem hl⟩
noncomputable def Ob(M0:Mo)(R:List (List Nat))(i:Nat)(δ:ao)(l:List D)(M:Mo):Prop:=(∃z,δ=[z])∧l=(List.range i).map (fun x=>.ref (M0.length+x))∧M.length=M0.length+i∧(∀q,q<M0.length->M[q]?=M0[q]?)∧∀x,x<i->M[M0.length+x]?=some (.lst ((gr R x).map nD))
noncomputable def Oc(M0:Mo)(p q n:Nat)(pre:ao)(i:Nat)(δ:ao)(M:Mo):Prop:=(∃z9 z10 z11 z12,δ=pre++[z9,z10,z11,z12])∧(∃g,Rs q n (2^60+i*4) g M)∧cC p M∧Sb p M0 M
theorem El {p n:Nat}{R:List (List Nat)}{M:Mo} (h:JM n R) (hp:cC p M):Rn (Cd [.ref p,nM R]) M fun d M'=>(∃ L:List D,d=.lst L∧L.length=9∧∀ x∈L,Tg x)∧cC p M'∧Sb p M M':=by
 have n1:=h.n1
 have n5:=h.n5
 have hpl:=hp.lt
 unfold Cd pA jo;dsimp only
 refine Rn.call rfl ?_
 have st:dI 13 [.ref p,nM R]=[some (.ref p),some (nM R),none,none,none,none,none,none,none,none,none,none,none]:=rfl
 rw[st]
 refine aK fun K hK=>?_
 simp[Kv,h.len]
 rw[hK];clear hK K
 refine aK fun K hK=>?_
 have rg4:fU [.int 4]=some (.fix ((List.range 4).map nD)):=uv (n:=4) (by decide)
 simp[rg4,aP,bc]
 refine Rn.bind (dY (dM (Oi M p n) _ 0 _ _ _ ⟨⟨_,rfl⟩,⟨[],rfl,rfl,fun _ h=>by cases h⟩,hp,Sb.refl⟩ (fun j d δ l M4 hj hI=>?_))) fun pr M1 hI=>?_
 ·obtain⟨⟨z,rfl⟩,⟨ts,rfl,lt,ht⟩,hp4,s4⟩:=hI
  have jl:j<4:=by have:=(List.getElem?_eq_some_iff.mp hj).1;simpa using this
  have ll:(ts.map nD).length<sizeLine:=by show _<2^24;rw[List.length_map];lia
  rw[lu,au]
  simp only[bR,if_true,bh,aO,List.set_cons_zero,↓reduceIte]
  refine Rn.bind (cM (far:=(n:Int)) hp4 (by lia) (by lia)) fun d M5 ⟨t,g,e,hp5,s5⟩=>?_
  subst e
  rw[if_pos ll]
  refine Rn.pure ⟨⟨_,rfl⟩,⟨ts++[t],by rw[List.map_append];rfl,by simp;lia,fun x hx=>?_⟩,hp5,s4.trans s5⟩
  rcases List.mem_append.mp hx with hx | hx
  ·exact ht x hx
  ·rw[List.mem_singleton.mp hx];lia
 obtain⟨_,⟨ts,ets,lts,hts⟩,hp1,s1⟩:=hI
 have lts:ts.length=4:=lts
 obtain⟨x,y,u,v,rfl⟩:∃x y u v,ts=[x,y,u,v]:=by
  match ts,lts with
  |[x,y,u,v],_=>exact⟨x,y,u,v,rfl⟩
 have hx:=hts x (by simp)
 have hy:=hts y (by simp)
 have hu:=hts u (by simp)
 have hv:=hts v (by simp)
 rw[ets]
 simp[gL]
 rw[hK];clear hK K
 clear ets lts hts
 -- the rows
 refine aK fun K hK=>?_
 have aT:jV (nM R)=some (.fix (R.map nT)):=rfl
 have ls:∀l M,eY [nT l] M=some (l.map nD):=fun l M=>rfl
 simp[aT,aP,bc]
 refine Rn.bind (dY (dM (Ob M1 R) _ 0 _ _ _ ⟨⟨_,rfl⟩,rfl,rfl,fun _ _=>rfl,fun x h=>by lia⟩ (fun j d δ l M4 hj hI=>?_))) fun pr2 M2 hI=>?_
 ·obtain ⟨⟨z,rfl⟩,rfl,hl,hk,hr⟩:=hI
  have jl:j<R.length:=by have:=(List.getElem?_eq_some_iff.mp hj).1;simpa using this
  have ed:d=nT (gr R j):=by
   rw[List.getElem?_map,List.getElem?_eq_getElem jl] at hj
   rw[←Option.some.inj hj]
   unfold gr
   rw[List.getD_eq_getElem?_getD,List.getElem?_eq_getElem jl];rfl
  subst ed
  have lr:(gr R j).length≤5:=by
   unfold gr
   rw[List.getD_eq_getElem?_getD,List.getElem?_eq_getElem jl]
   have:=h.row R[j] (List.getElem_mem jl)
   show R[j].length≤5
   lia
  have lt:j<sizeLine:=by show j<2^24;have:=h.len;lia
  simp[bh]
  refine Rn.bindRd _ (ls _ _) ?_
  refine Rn.dH (by simp;lia) ?_
  simp[lt]
  rw[Nat.zero_add] at hl hr
  refine Rn.pure ⟨⟨_,rfl⟩,?_,by simp[hl];lia,fun q hq=>by rw[List.getElem?_append_left (by lia)];exact hk q hq,fun x hx=>?_⟩
  ·rw[List.range_succ,List.map_append,hl];simp
  ·by_cases e:x=j
   ·subst e
    rw[show M1.length+x=M4.length by lia,List.getElem?_concat_length]
   ·rw[List.getElem?_append_left (by lia)]
    exact hr x (by lia)
 obtain⟨_,er,l2,k2,r2⟩:=hI
 rw[List.length_map,h.len,Nat.zero_add] at er l2 r2
 rw[er,hK];clear hK K
 have hrf:D.lst ((List.range n).map fun x=>.ref (M1.length+x))=refs M1.length n:=rfl
 rw[hrf]
 have pl1:p<M1.length:=hp1.lt
 have grl:∀x,x<n->∃r∈R,gr R x=r:=fun x hx=>by
  have hl:x<R.length:=by rw[h.len];exact hx
  refine⟨R[x],List.getElem_mem hl,?_⟩
  unfold gr
  rw[List.getD_eq_getElem?_getD,List.getElem?_eq_getElem hl];rfl
 have rs2:Rs M1.length n (2^60) (fun x=>(gr R x).map fun k:Nat=>(k:Int)) M2:=by
  refine⟨fun x hx=>?_,fun x hx=>?_,fun x hx i hi=>?_⟩
  ·rw[r2 x hx,List.map_map];rfl
  ·obtain⟨r,hr,e⟩:=grl x hx
   rw[List.length_map,e];exact h.row r hr
  ·obtain⟨r,hr,e⟩:=grl x hx
   obtain⟨k,hk,rfl⟩:=List.mem_map.mp hi
   rw[e] at hk
   have:=h.bd r hr k hk
   simpa using this
 have sb2:Sb p M M2:=⟨by have:=s1.le;lia,fun q hq hl=>by rw[k2 q (by have:=s1.le;lia)];exact s1.keep q hq hl⟩
 have hp2:cC p M2:=by
  obtain⟨w,e⟩:=hp1
  exact⟨w,by rw[k2 p pl1];exact e⟩
 clear r2 k2 l2 er
 -- the part
 refine aK fun K hK=>?_
 obtain⟨i1,x1,_,m1⟩:=rs2.ix hx hy
 obtain⟨i2,x2,_,m2⟩:=rs2.ix hu hv
 have p1:0≤i1:=by obtain⟨k,_,rfl⟩:=List.mem_map.mp m1;lia
 have p2:0≤i2:=by obtain⟨k,_,rfl⟩:=List.mem_map.mp m2;lia
 simp[gB hx,gB hu]
 refine Rn.bindRd _ x1 ?_
 refine Rn.bindRd _ x2 ?_
 refine Rn.bind (cM (far:=3) hp2 (by decide) (by decide)) fun d M3 ⟨t,ht,e,hp3,s3⟩=>?_
 subst e
 have m3:∀i j k:Int,(rd (Bb [.int i,.int j,.int k]):DM D)=pure (.int (min (min i j) k)):=fun i j k=>bH fun M=>rfl
 have ad:(rd (cg (.int 1) (nD t)):DM D)=pure (.int (1+(t:Int))):=bH fun M=>rfl
 simp[ad,m3]
 rw[hK];clear hK K
 have c0:0≤min i1 (min i2 (1+(t:Int))):=by lia
 have c3:min i1 (min i2 (1+(t:Int)))≤3:=by lia
 revert c0 c3
 generalize min i1 (min i2 (1+(t:Int)))=part
 intro c0 c3
 have rs3:=rs2.sb s3 pl1
 have sb3:=sb2.trans s3
 clear x1 x2 m1 m2 p1 p2 rs2 sb2 hp2 s3 ad m3
 -- the moves
 refine aK fun K hK=>?_
 have mk3:∀a b c:D,fY [a,b,c]=pure (.tup [a,b,c]):=fun a b c=>dm (by simp)
 have mk4:∀a b c d:D,dN [a,b,c,d]=pure (.lst [a,b,c,d]):=fun a b c d=>cO (by simp)
 have al:∀l:List D,(rd (o9 (.lst l)):DM Itn)=pure (.fix l):=fun l=>rfl
 simp[mk3,mk4,al,my]
 refine Rn.bind (cu (Oc M p M1.length n [some (.ref p),some (nM R),some (nD n),some (nD x),some (nD y),some (nD u),some (nD v),some (refs M1.length n),some (.int part)]) _ 0 _ _ ⟨⟨_,_,_,_,rfl⟩,⟨_,rs3⟩,hp3,sb3⟩ (fun j d δ M5 hj hI=>?_)) (fun r M5 hI=>?_)
 ·obtain⟨⟨z9,z10,z11,z12,rfl⟩,⟨g,rs5⟩,hp5,sb5⟩:=hI
  obtain⟨a,b,m,rfl,ha,hb,hm⟩:∃(a b:Nat) (m:Int),d=.tup [nD a,nD b,.int m]∧a<n∧b<n∧m.natAbs≤3:=by
   have hd:=List.mem_of_getElem? hj
   simp only[List.mem_cons,List.not_mem_nil,or_false] at hd
   rcases hd with rfl | rfl | rfl | rfl
   ·exact⟨_,_,_,rfl,hx,hy,by lia⟩
   ·exact⟨_,_,_,rfl,hu,hv,by lia⟩
   ·exact⟨_,_,_,rfl,hx,hv,by lia⟩
   ·exact⟨_,_,_,rfl,hu,hy,by lia⟩
  have gt3:∀δ:ao,gT 3 (fu (gN 9) (fu (gN 10) (fu (gN 11) qH))) (.tup [nD a,nD b,.int m]) δ=pure (((δ.set 9 (some (nD a))).set 10 (some (nD b))).set 11 (some (.int m))):=fun δ=>rfl
  rw[gt3,au]
  obtain⟨i,ei,bi,_⟩:=rs5.ix ha hb
  obtain⟨se,rs6⟩:=rs5.set (w:=i+m) (v:=2^60+(j+1)*4) ha hb (by lia) (by lia)
  simp[gB ha]
  refine Rn.bindRd _ ei ?_
  simp
  refine Rn.run se (Rn.pure ⟨_,rfl,⟨_,_,_,_,rfl⟩,⟨_,rs6⟩,hp5.sb (q:=M1.length+a) Sb.set (by lia),Sb.new (p:=p) (.inr sb5.le) (by have:=s1.le;lia) Sb.set sb5⟩)
 obtain⟨δ',rfl,⟨z9,z10,z11,z12,rfl⟩,⟨g,rs5⟩,hp5,sb5⟩:=hI
 rw[hK];clear hK K
 clear rs3 sb3 hp3
 have rs5:Rs M1.length n (2^61) g M5:=⟨rs5.at_,rs5.len,fun x hx i hi=>Nat.le_trans (rs5.bd x hx i hi) (show 2^60+(0+4)*4≤2^61 by decide)⟩
 -- what is found
 refine aK fun K hK=>?_
 have al':(rd (o9 (refs M1.length n)):DM Itn)=pure (.fix ((List.range n).map fun x=>D.ref (M1.length+x))):=rfl
 have rv:Bp (nM R)=some (.tup (R.map nT).reverse):=rfl
 have ld:(rd (fun M=>Option.map D.lst (eY [nM R] M)):DM D)=pure (.lst (R.map nT)):=bH fun M=>rfl
 have sl:∀a b,(rd (nJ a b (nM R)):DM D)=pure (.tup (cutD (R.map nT) a b)):=fun a b=>bH fun M=>rfl
 have aI:∀i:Int,G6 (.int i)=pure (some i):=fun i=>rfl
 have lc:=Lg (l:=R.map nT)
 have lm:(R.map nT).length≤5:=by rw[List.length_map,h.len];exact n5
 have ad:(rd (cg (nM R) (.tup (cutD (R.map nT) none (some 1)))):DM D)=pure (.tup (R.map nT++cutD (R.map nT) none (some 1))):=bH fun M=>by
  show vm (R.map nT++cutD (R.map nT) none (some 1))=_
  have:dJ (R.map nT++cutD (R.map nT) none (some 1))=true:=by unfold dJ;exact decide_eq_true (by show _≤2^24;rw[List.length_append];lia)
  unfold vm
  rw[if_pos this]
 simp only[bR,List.cons_append,List.nil_append,bF,aO,al',aP,bc,List.map_nil,fL]
 refine Rn.bind (dY (gJ (rest:=[]) (R:=fun x=>.tup ((g x).map D.int)) (by lia) (fun j hj=>?_))) fun p6 M6 ⟨e6,q6⟩=>?_
 ·simp
  exact Rn.rd (by show (aU (.ref (M1.length+j)) M5).map _=_;simp only[aU,rs5.at_ j hj];rfl) ⟨rfl,rfl⟩
 subst e6
 rw[q6]
 simp only[jc,au,qj,rv,gU,ld,Hm,aI,sl,ad]
 refine Rn.dH (by simp) ?_
 rw[hK];clear hK K
 have t1:Tg (.tup ((List.range n).map fun x=>.tup ((g x).map D.int))):=nO (fun x hx=>by
  obtain⟨k,hk,rfl⟩:=List.mem_map.mp hx
  have hk:=List.mem_range.mp hk
  exact (zX (by rw[rs5.len k hk];exact n5) (rs5.bd k hk)).1) (by simp;lia)
 have t2:Tg (.tup (R.map nT).reverse):=nO (fun x hx=>h.rw1 x (List.mem_reverse.mp hx)) (by rw[List.length_reverse];lia)
 have t3:Tg (.lst (R.map nT)):=K7 h.rw1 (by lia)
 have t4:Tg (.tup (cutD (R.map nT) none (some (-1)))):=nO (fun x hx=>h.rw1 x (zx hx)) (by have:=Hv (l:=R.map nT) (a:=none) (b:=some (-1));lia)
 have t5:Tg (.tup (R.map nT++cutD (R.map nT) none (some 1))):=nO (fun x hx=>by
  rcases List.mem_append.mp hx with k | k
  ·exact h.rw1 x k
  ·exact h.rw1 x (zx k)) (by rw[List.length_append];lia)
 revert t1 t2 t3 t4 t5
 generalize D.tup ((List.range n).map fun x=>.tup ((g x).map D.int))=d1
 generalize D.tup (R.map nT).reverse=d2
 generalize D.lst (R.map nT)=d3
 generalize D.tup (cutD (R.map nT) none (some (-1)))=d4
 generalize D.tup (R.map nT++cutD (R.map nT) none (some 1))=d5
 intro t1 t2 t3 t4 t5
 have le1:=s1.le
 have le6:=sb5.le
 have at6:(M6++[DO.lst [d1,d2,d3,d4,d5]])[M6.length]?=some (.lst [d1,d2,d3,d4,d5]):=by simp
 have hp6:cC p (M6++[DO.lst [d1,d2,d3,d4,d5]]):=hp5.sb (q:=M6.length) Sb.push (by have:=hp5.lt;lia)
 have sb6:Sb p M (M6++[DO.lst [d1,d2,d3,d4,d5]]):=sb5.trans Sb.push
 revert at6 hp6 sb6
 generalize (M6++[DO.lst [d1,d2,d3,d4,d5]])=M7
 intro at6 hp6 sb6
 -- turned over
 refine aK fun K hK=>?_
 have rg:fU [nD n]=some (.fix ((List.range n).map nD)):=gW (by lia)
 have lo:(rd (fun M=>aU (.ref M6.length) M):DM (List D)) M7=some (.ok [d1,d2,d3,d4,d5],M7):=by
  show (aU (.ref M6.length) M7).map _=_
  simp only[aU,at6];rfl
 simp only[vV,bR,bF,aO]
 refine Rn.run lo ?_
 simp only[bR,bF,aO,rg,aP,bc,List.map_nil,List.map_cons,fL,aT]
 have cc:=fun y (hy:y<n)=>pO h.row (by have:=h.len;lia) hy
 refine Rn.bind (dY (gJ (rest:=[some (nM R)]) (hd:=nD) (R:=fun y=>nT (R.map fun r=>ga r y)) (by lia) (fun y hy=>?_))) fun p8 M8 ⟨e8,q8⟩=>?_
 ·simp only[bR,List.length_cons,List.length_nil,List.replicate_succ,List.replicate_zero,List.cons_append,List.nil_append,bF,aO,aT,fL,Option.getD_some]
  rw[cc y hy,au]
  exact Rn.pure ⟨rfl,rfl⟩
 subst e8
 rw[q8]
 simp only[jc,au,qj]
 refine Rn.run (zu at6 (by simp)) ?_
 rw[hK];clear hK K
 have t6:Tg (.tup ((List.range n).map fun y=>nT (R.map fun r=>ga r y))):=nO (fun x hx=>by
  obtain⟨k,hk,rfl⟩:=List.mem_map.mp hx
  refine (qM (by rw[List.length_map];have:=h.len;lia) (fun i hi=>?_)).1
  obtain⟨r,hr,rfl⟩:=List.mem_map.mp hi
  have hk:k<r.length:=by rw[h.row r hr];exact List.mem_range.mp hk
  rw[tY hk]
  exact h.bd r hr _ (List.getElem_mem hk)) (by simp;lia)
 revert t6
 generalize D.tup ((List.range n).map fun y=>nT (R.map fun r=>ga r y))=d6
 intro t6
 have at7:(List.set M8 M6.length (DO.lst ([d1,d2,d3,d4,d5]++[d6])))[M6.length]?=some (.lst [d1,d2,d3,d4,d5,d6]):=by
  rw[List.getElem?_set_self (List.getElem?_eq_some_iff.mp at6).1];rfl
 have ne6:p≠M6.length:=by have:=hp5.lt;lia
 have hp7:cC p (List.set M8 M6.length (DO.lst ([d1,d2,d3,d4,d5]++[d6]))):=hp6.sb (q:=M6.length) Sb.set ne6
 have sb7:Sb p M (List.set M8 M6.length (DO.lst ([d1,d2,d3,d4,d5]++[d6]))):=Sb.new (p:=p) (.inr sb6.le) le6 Sb.set sb6
 revert at7 hp7 sb7
 generalize (List.set M8 M6.length (DO.lst ([d1,d2,d3,d4,d5]++[d6])))=M9
 intro at7 hp7 sb7
 -- the last three
 simp only[bR,bF,aO]
 refine Rn.bind (Cp 8 (n:=2) (c:=9618) (by decide) h.gd hp7 (by have:=h.w;unfold nM;simp only[wt];lia) (fun l hl x hx=>by cases hl;exact h.rw x hx)) fun d7 N1 ⟨⟨g7,w7⟩,hq1,sq1⟩=>?_
 have t7:Tg d7:=⟨g7.mono (by decide) (by decide),by have:=h.w;unfold nM at w7;simp only[wt] at w7;lia⟩
 have cl:=qD (fe:=fun δ=>opt δ[0]?.join>>=fun x=>rd (fun M=>Option.map D.lst (eY [x] M))) (x:=none) (rest:=[]) (l:=R.map nT) (fun d=>match d with | .tup l=>.lst l | _=>.non) (by lia) (fun d hd=>by
  obtain⟨r,_,rfl⟩:=List.mem_map.mp hd
  rfl)
 simp only[aT,gU,au,aO,aP,bc,List.map_nil,fL,List.length_cons,List.length_nil,List.replicate_succ,List.replicate_zero,List.cons_append,List.nil_append,bF]
 rw[cl,au]
 simp only[jc,au,qj,aO]
 refine Rn.bind (mZ hq1) fun d9 N2 ⟨⟨g9,w9⟩,hq2,sq2⟩=>?_
 have t9:Tg d9:=⟨g9.mono (by decide) (by decide),by lia⟩
 have t8:Tg (.tup ((R.map nT).map fun d=>match d with | .tup l=>.lst l | _=>.non)):=nO (fun x hx=>by
  rw[List.map_map] at hx
  obtain⟨r,hr,rfl⟩:=List.mem_map.mp hx
  exact (qM (by rw[h.row r hr];exact n5) (h.bd r hr)).2) (by rw[List.length_map];lia)
 revert t8
 generalize D.tup ((R.map nT).map fun d=>match d with | .tup l=>.lst l | _=>.non)=d8
 intro t8
 have at8:N2[M6.length]?=some (.lst [d1,d2,d3,d4,d5,d6]):=sq2.at (Ne.symm ne6) (sq1.at (Ne.symm ne6) at7)
 have mk3:dN [d7,d8,d9]=pure (.lst [d7,d8,d9]):=cO (by simp)
 rw[mk3]
 simp only[au]
 have fin:cg (.ref M6.length) (.lst [d7,d8,d9]) N2=some (.lst [d1,d2,d3,d4,d5,d6,d7,d8,d9]):=by
  simp only[cg,aU,at8];rfl
 refine Rn.bindRd _ fin ?_
 refine Rn.pure ⟨_,rfl,⟨_,rfl,rfl,fun x hx=>?_⟩,hq2,sb7.trans (sq1.trans sq2)⟩
 simp only[List.mem_cons,List.not_mem_nil,or_false] at hx
 rcases hx with rfl | rfl | rfl | rfl | rfl | rfl | rfl | rfl | rfl<;>assumption
noncomputable def Ez:=aL 1 13 (G7 zj zq jR BV rm BP Cd mj jC Ce q9 nP gD (qY 8) wM)
noncomputable def MN(cs:List Int)(i:Nat)(δ:ao)(M:Mo):Prop:=∃x1 x2 x3 x4 x5 x6 x7 x8 x9 x10 x11 x12,δ=[some (.scr cs),x1,x2,x3,x4,x5,x6,x7,x8,x9,x10,x11,x12]
noncomputable def Mz(pre:ao)(p:Nat)(i:Nat)(δ:ao)(M:Mo):Prop:=(∃x8 x9 x10 x11 x12,δ=pre++[x8,x9,x10,x11,x12])∧cC p M
noncomputable def Oe(pre:ao)(x8 x9:D)(p:Nat)(i:Nat)(δ:ao)(M:Mo):Prop:=(∃x10 x11 x12,δ=pre++[some x8,some x9,x10,x11,x12])∧cC p M
theorem EY{l:List Nat}{n:Nat}(h:l.length=n):S n (fn l)=l.sum:=by
 have:=mW h
 have q:l.map nD=((List.range n).map (fn l)).map nD:=D.tup.inj this
 have inj:∀x y:Nat,nD x=nD y->x=y:=fun x y h=>by
  have:=D.int.inj h
  lia
 have:l=(List.range n).map (fn l):=(List.map_inj_right inj).mp q
 rw[←pL,←this]
theorem Two.sum{a b:List Nat}{n:Nat}(t:Two a b)(h:a.length=n):S n (fn (aR a b))=S n (fn (bD a b)):=by
 rw[EY (by simp[aR,h]),EY (by have:=t.hl;simp[bD];lia),zE t.h1.2.2,HD t.h1.2.2 t.h2.2.2]
noncomputable def vW(n:Nat)(A:Nat->Nat->Nat):List (List Nat):=(List.range n).map fun x=>(List.range n).map (A x)
theorem uM(n:Nat)(A:Nat->Nat->Nat):jn n A=nM (vW n A):=by
 unfold jn nM vW
 rw[List.map_map];rfl
theorem Ax{a b:List Nat}{n:Nat}{A:Nat->Nat->Nat}(t:Two a b)(h:a.length=n)(h5:n≤5)(J:Joins n (fn (aR a b)) (fn (bD a b)) A):JM n (vW n A):=by
 have hL:LC a.sum b.sum<2^60:=Nat.lt_of_le_of_lt (G3 t.h1.2.2) (Nat.lt_of_lt_of_le (Nat.mul_lt_mul_of_lt_of_lt t.s1 t.s2) (by decide))
 refine⟨by have:=t.h1.1;lia,h5,by simp[vW],fun r hr=>?_,fun r hr x hx=>?_⟩
 ·obtain⟨k,_,rfl⟩:=List.mem_map.mp hr
  simp
 ·obtain⟨k,hk,rfl⟩:=List.mem_map.mp hr
  obtain⟨y,hy,rfl⟩:=List.mem_map.mp hx
  have a1:=jD (f:=A k) (List.mem_range.mp hy)
  rw[J.row k (List.mem_range.mp hk)] at a1
  have a2:=jD (f:=fn (aR a b)) (List.mem_range.mp hk)
  rw[EY (by simp[aR,h]),zE t.h1.2.2] at a2
  lia
noncomputable def Ug(d:D):Prop:=Gd (2^61) 9 d∧wt d≤115900
theorem Ug.pair{x y:D}(hx:Gd (2^61) 8 x)(wx:wt x≤9620)(hy:Tg y):Ug (.tup [x,y]):=by
 refine⟨.tup fun z hz=>?_,by have:=hy.2;simp only[wt,bf];lia⟩
 simp only[List.mem_cons,List.not_mem_nil,or_false] at hz
 rcases hz with rfl | rfl
 ·exact hx
 ·exact hy.1
noncomputable def Pg(d:D):Prop:=Gd (2^61) 8 d∧wt d≤9620
theorem qL{l:List Nat}{n:Nat}(hl:l.length≤5)(hn:n≤5)(h:∀x∈l,x≤n):Pg (nT l)∧Pg (.lst (l.map nD)):=by
 have:=qM hl (fun i hi=>by have:=h i hi;lia)
 exact⟨⟨this.1.1.mono (Nat.le_refl _) (by decide),this.1.2⟩,⟨this.2.1.mono (Nat.le_refl _) (by decide),this.2.2⟩⟩
theorem HN (cs:List Int) (hcs:cs.length≤1000000):Rn (Ez [.scr cs]) [] fun d _=>d=.bl true:=by
 unfold Ez G7 Bj;dsimp only
 refine Rn.call rfl ?_
 refine aK fun K hK=>?_
 have rg:∀w:Nat,w≤4->fU [nD w]=some (.fix ((List.range w).map nD)):=fun w h=>gW (by lia)
 have e0:∃m:Nat,m≤4∧(D.int (if (if (3:Int)<(cs.length:Int) then 3 else (cs.length:Int)) > 1 then (if (3:Int)<(cs.length:Int) then 3 else (cs.length:Int)) else 1))=nD m:=by
  refine⟨(if (if (3:Int)<(cs.length:Int) then 3 else (cs.length:Int)) > 1 then (if (3:Int)<(cs.length:Int) then 3 else (cs.length:Int)) else 1).toNat,?_,?_⟩
  ·split<;>split<;>lia
  ·unfold nD
   congr 1
   split<;>split<;>lia
 obtain⟨m,hm,em⟩:=e0
 have st:dI 13 [D.scr cs]=[some (.scr cs),none,none,none,none,none,none,none,none,none,none,none,none]:=rfl
 rw[st]
 simp only[bF,List.getElem?_cons_zero,Option.join_some,gU,au,aO,Kw,DX,KC,em,rg m hm,fF]
 refine Rn.bind (cu (MN cs) _ 0 _ _ ⟨_,_,_,_,_,_,_,_,_,_,_,_,rfl⟩ (fun j d δ M hj hI=>?_)) (fun r M hI=>?_)
 rotate_left
 ·obtain⟨δ',rfl,_⟩:=hI
  rw[hK]
  exact Rn.pure ⟨_,rfl,rfl⟩
 clear hK K
 obtain⟨x1,x2,x3,x4,x5,x6,x7,x8,x9,x10,x11,x12,rfl⟩:=hI
 obtain⟨k,hk,rfl⟩:∃k:Nat,k<m∧d=nD k:=by
  have h1:=(List.getElem?_eq_some_iff.mp hj).1
  have:j<m:=by simpa using h1
  refine⟨j,this,?_⟩
  rw[List.getElem?_map,List.getElem?_range this] at hj
  exact (Option.some.inj hj).symm
 clear hj hm em rg st
 generalize 0+j+1=nx
 rw[lu,au]
 obtain⟨c,ec⟩:=Je cs k
 obtain⟨v,ev⟩:=Kl c
 -- the pot
 refine aK fun K hK=>?_
 simp[ec,ev]
 refine Rn.dH (by simp) ?_
 have hp0:cC M.length (M++[.lst [nD v]]):=⟨v,by simp⟩
 revert hp0
 generalize M.length=p
 generalize M++[.lst [nD v]]=M0
 intro hp0
 rw[hK];clear hK K ec ev
 -- how wide
 refine aK fun K hK=>?_
 simp
 refine Rn.bind (cM (far:=5) hp0 (by decide) (by decide)) fun d2 M2 ⟨t2,g2,e2,hp2,s2⟩=>?_
 subst e2
 have ew:(rd (cg (.int 1) (nD t2)):DM D)=pure (nD (t2+1)):=by unfold nD;rw[wF];congr 2;lia
 rw[ew,au,hK];clear hK K
 have w1:1≤t2+1:=by lia
 have w5:t2+1≤5:=by lia
 revert w1 w5
 generalize t2+1=n
 intro w1 w5
 clear ew g2 s2 hp0
 have m2:∀x y:D,fY [x,y]=pure (.tup [x,y]):=fun x y=>dm (by simp)
 -- two lots
 refine aK fun K hK=>?_
 simp
 refine Rn.bind (Di hp2 w1 (by lia)) fun d3 M3 ⟨a,e3,la,sa,ba,hp3,s3⟩=>?_
 refine Rn.bind (Di hp3 w1 (by lia)) fun d4 M4 ⟨b,e4,lb,sb,bb,hp4,s4⟩=>?_
 subst e3 e4
 simp[m2]
 rw[hK];clear hK K s3 s4 hp2 hp3
 have t:Two a b:=⟨⟨by lia,by lia,sa⟩,⟨by lia,by lia,sb⟩,by lia,by
  have:=En ba
  have:=Nat.mul_le_mul_right 1000000 (by lia:a.length≤8);lia,by
  have:=En bb
  have:=Nat.mul_le_mul_right 1000000 (by lia:b.length≤8);lia⟩
 have t0:=t.sum la
 -- the paper
 refine aK fun K hK=>?_
 simp
 refine Rn.bind (Kg t.h1 t.h2 la lb t.s1 t.s2) fun d5 M5 ⟨e5,x5'⟩=>?_
 rw[uM] at e5
 subst e5
 have hp5:cC p M5:=by
  obtain⟨v,e⟩:=hp4
  exact⟨v,by rw[x5'.keep p (List.getElem?_eq_some_iff.mp e).1];exact e⟩
 have jA:JM n (vW n (tZ n (fn (aR a b)) (fn (bD a b))).A):=Ax t la w5 (Gh t0).1
 have pm:Pg (nT (more (aR a b) (bD a b)))∧Pg (.lst ((more (aR a b) (bD a b)).map nD))∧Pg (nT (more (aR a b) (bD a b)).reverse)∧Gd (2^60) 2 (nT (more (aR a b) (bD a b))):=by
  have q:∀x∈more (aR a b) (bD a b),x≤n:=fun x hx=>by
   have:=List.mem_range.mp (List.mem_filter.mp hx).1
   simp[aR,la] at this;lia
  have ql:(more (aR a b) (bD a b)).length≤n:=by
   have:=List.length_filter_le (fun i=>decide ((bD a b).getD i 0<(aR a b).getD i 0)) (List.range (aR a b).length)
   unfold more
   simp[aR,la] at this ⊢;lia
  have z:=qL (by lia) w5 q
  exact⟨z.1,z.2,(qL (by rw[List.length_reverse];lia) w5 fun x hx=>q x (List.mem_reverse.mp hx)).1,(Gd.nats fun x hx=>by have:=q x hx;lia:Gd (2^60) 1 _).mono (Nat.le_refl _) (by decide)⟩
 rw[hK];clear hK K
 revert jA pm
 generalize vW n (tZ n (fn (aR a b)) (fn (bD a b))).A=R
 generalize more (aR a b) (bD a b)=ps
 intro jA pm
 clear x5' hp4 ba bb
 have ix0:∀x y:D,(rd (cF (.tup [x,y]) (.int 0)):DM D)=pure x:=fun x y=>oG (i:=0) rfl
 have ix1:∀x y:D,(rd (cF (.tup [x,y]) (.int 1)):DM D)=pure y:=fun x y=>oG (i:=1) rfl
 have ixL:∀x y z:D,(rd (cF (.lst [x,y,z]) (.int 1)):DM D)=pure y:=fun x y z=>Bk (i:=1) rfl
 have al:∀l:List D,(rd (o9 (.lst l)):DM Itn)=pure (.fix l):=fun l=>rfl
 -- the joinings
 refine aK fun K hK=>?_
 simp[ix1]
 refine Rn.bind (De t.h1 t.h2 la lb t.s1 t.s2 hp5) fun d6 M6 ⟨q6,pq6,e6,hp6,_⟩=>?_
 rw[uM] at e6
 subst e6
 have j6:=Ax t la w5 (vD pq6 t0)
 revert j6
 generalize vW n _=R6
 intro j6
 refine Rn.bind (De t.h1 t.h2 la lb t.s1 t.s2 hp6) fun d7 M7 ⟨q7,pq7,e7,hp7,_⟩=>?_
 rw[uM] at e7
 subst e7
 have j7:=Ax t la w5 (vD pq7 t0)
 revert j7
 generalize vW n _=R7
 intro j7
 have mk3:dN [nM R,nM R6,nM R7]=pure (.lst [nM R,nM R6,nM R7]):=cO (by simp)
 rw[mk3,au,hK];clear hK K mk3
 -- the things
 refine aK fun K hK=>?_
 simp only[bR,bF,aO,ix1,ixL]
 refine Rn.bind (El jA hp7) fun d8 M8 ⟨⟨L8,e8,l8,g8⟩,hp8,_⟩=>?_
 subst e8
 rw[nA (by simp;lia),au]
 refine Rn.bind (El j6 hp8) fun d9 M9 ⟨⟨L9,e9,l9,g9⟩,hp9,_⟩=>?_
 subst e9
 rw[nA (by simp;lia),au]
 have mkn:dN [.non]=pure (.lst [.non]):=cO (by simp)
 rw[mkn,au,nA (by simp;lia),au]
 have tg:∀ d∈[nM R,nM R6,nM R7]++L8++L9++[D.non],Tg d:=fun d hd=>by
  rcases List.mem_append.mp hd with hd | hd
  ·rcases List.mem_append.mp hd with hd | hd
   ·rcases List.mem_append.mp hd with hd | hd
    ·simp only[List.mem_cons,List.not_mem_nil,or_false] at hd
     rcases hd with rfl | rfl | rfl
     ·exact jA.tg
     ·exact j6.tg
     ·exact j7.tg
    ·exact g8 d hd
   ·exact g9 d hd
  ·rw[List.mem_singleton.mp hd];exact⟨.non,by simp[wt]⟩
 revert tg
 generalize [nM R,nM R6,nM R7]++L8++L9++[D.non]=Ts
 intro tg
 clear g8 g9 l8 l9 mkn
 simp only[al,au,fF]
 generalize hpre:([some (.scr cs),some (nD k),some (.ref p),some (nD n),some (nT a),some (nT b),some (.tup [nT ps,nM R]),some (.lst [nM R,nM R6,nM R7])]:ao)=pre
 refine Rn.bind (cu (Mz pre p) _ 0 _ _ ⟨⟨_,_,_,_,_,by rw[←hpre];rfl⟩,hp9⟩ (fun s d δ N1 hj2 hI=>?_)) (fun r N1 hI=>?_)
 ·obtain ⟨⟨y8,y9,y10,y11,y12,rfl⟩,hq⟩:=hI
  have td:=tg d (List.mem_of_getElem? hj2)
  generalize 0+s+1=nx2
  obtain⟨sv,esv⟩:=td.1.sh (by decide +kernel) (by decide) (by have:=td.2;lia)
  obtain⟨β,e1,e2⟩:=HF t td.1 (by have:=td.2;lia)
  obtain⟨sb,esb⟩:=(Gd.bl (B:=0) (n:=0) β).sh (by decide +kernel) (by decide) (by simp[wt])
  rw[lu,au]
  subst hpre
  refine aK fun K hK=>?_
  simp[esv]
  rw[hK];clear hK K
  refine aK fun K hK=>?_
  simp[e1,e2,esb]
  rw[hK];clear hK K
  have rv:Bp (nT ps)=some (nT ps.reverse):=by show some (D.tup (ps.map nD).reverse)=_;rw[←List.map_reverse];rfl
  have ld:(rd (fun M=>Option.map D.lst (eY [nT ps] M)):DM D)=pure (.lst (ps.map nD)):=bH fun M=>rfl
  simp only[bR,bF,aO]
  refine Rn.bind (K3 (by lia:n≤10)) fun d7 M7 ⟨e7,e7'⟩=>?_
  subst e7 e7'
  simp only[bR,bF,aO,ix0,rv,ld,Bm]
  refine Rn.bind (mZ hq) fun o1 N2 ⟨⟨go,wo⟩,hq2,_⟩=>?_
  have mk5:dN [nT ps,.lst (ps.map nD),nT ps.reverse,nT [n],o1]=pure (.lst [nT ps,.lst (ps.map nD),nT ps.reverse,nT [n],o1]):=cO (by simp)
  have sl:(bC n).length≤1024:=by
   rw[sW]
   exact Nat.le_trans (Nat.pow_le_pow_right (by decide) (by lia:n≤10)) (by decide)
  rw[mk5,au,nA (by simp;lia),au]
  have pg:∀x∈(bC n).map nT++[nT ps,.lst (ps.map nD),nT ps.reverse,nT [n],o1],Pg x:=fun x hx=>by
   rcases List.mem_append.mp hx with hx | hx
   ·obtain⟨u,hu,rfl⟩:=List.mem_map.mp hx
    obtain⟨b1,b2⟩:=qO hu
    exact (qL (by lia) w5 (fun x hx=>by have:=b2 x hx;lia)).1
   ·simp only[List.mem_cons,List.not_mem_nil,or_false] at hx
    rcases hx with rfl | rfl | rfl | rfl | rfl
    ·exact pm.1
    ·exact pm.2.1
    ·exact pm.2.2.1
    ·exact (qL (l:=[n]) (by simp) w5 (fun x hx=>by simp at hx;lia)).1
    ·exact⟨go.mono (by decide) (by decide),by lia⟩
  revert pg
  generalize (bC n).map nT++[nT ps,.lst (ps.map nD),nT ps.reverse,nT [n],o1]=Ps
  intro pg
  simp only[al,au,fF]
  refine (cu (Oe [some (.scr cs),some (nD k),some (.ref p),some (nD n),some (nT a),some (nT b),some (.tup [nT ps,nM R]),some (.lst [nM R,nM R6,nM R7])] d (.str sv) p) _ 0 _ _ ⟨⟨_,_,_,rfl⟩,hq2⟩ (fun s2 d2 δ N3 hj3 hI=>?_)).mono (fun r N3 hI=>?_)
  ·obtain⟨⟨y10,y11,y12,rfl⟩,hq3⟩:=hI
   have pd:=pg d2 (List.mem_of_getElem? hj3)
   generalize 0+s2+1=nx3
   have ug:=Ug.pair pd.1 pd.2 td
   obtain⟨γ,f1,f2⟩:=zK t ug.1 ug.2
   obtain⟨sc,esc⟩:=(Gd.bl (B:=0) (n:=0) γ).sh (by decide +kernel) (by decide) (by simp[wt])
   rw[lu,au]
   refine aK fun K hK=>?_
   simp[m2,f2]
   rw[hK];clear hK K
   simp[m2,f1,esc,esv]
   exact Rn.pure ⟨_,rfl,⟨_,_,_,rfl⟩,hq3⟩
  ·obtain⟨δ',rfl,⟨y10,y11,y12,rfl⟩,hq3⟩:=hI
   exact⟨_,rfl,⟨_,_,_,_,_,rfl⟩,hq3⟩
 obtain⟨δ',rfl,⟨y8,y9,y10,y11,y12,rfl⟩,hq⟩:=hI
 subst hpre
 rw[hK];clear hK K tg
 -- other things
 refine aK fun K hK=>?_
 have ld:(rd (fun M=>Option.map D.lst (eY [.tup [nT ps,nM R]] M)):DM D)=pure (.lst [nT ps,nM R]):=bH fun M=>rfl
 have mt1:fY [.int 1]=pure (.tup [.int 1]):=dm (by simp)
 have ad:(rd (cg (.tup [nT ps,nM R]) (.tup [.int 1])):DM D)=pure (.tup [nT ps,nM R,.int 1]):=bH fun M=>rfl
 simp only[bR,List.cons_append,List.nil_append,bF,aO,ix0,ix1,ld,mt1,ad,m2]
 refine Rn.bind (mZ hq) fun o1 N2 ⟨⟨go,wo⟩,hq2,_⟩=>?_
 have jw:=jA.w
 have wR:wt (nM R)≤48103:=by unfold nM;simp only[wt];lia
 have gps:Gd (2^60) 2 (nT ps):=pm.2.2.2
 have gpp:Gd (2^60) 3 (.tup [nT ps,nM R]):=.tup fun z hz=>by
  simp only[List.mem_cons,List.not_mem_nil,or_false] at hz
  rcases hz with rfl | rfl
  ·exact gps
  ·exact jA.gd
 have wps:=pm.1.2
 have wpp:wt (.tup [nT ps,nM R])≤57730:=by simp only[wt,bf] at wR wps ⊢;lia
 refine Rn.bind (Cp 8 (n:=3) (c:=48103) (by decide) gpp hq2 (by lia) (fun l hl x hx=>by
  cases hl
  simp only[List.mem_cons,List.not_mem_nil,or_false] at hx
  rcases hx with rfl | rfl
  ·lia
  ·exact wR)) fun b1 N3 ⟨⟨g7,w7⟩,hq3,_⟩=>?_
 have mk7:dN [.non,nM R,.lst [nT ps,nM R],.tup [nT ps,nM R,.int 1],.tup [nM R,nT ps],o1,b1]=pure (.lst [.non,nM R,.lst [nT ps,nM R],.tup [nT ps,nM R,.int 1],.tup [nM R,nT ps],o1,b1]):=cO (by simp)
 rw[mk7,au,hK];clear hK K mk7
 have ug:∀x∈[D.non,nM R,.lst [nT ps,nM R],.tup [nT ps,nM R,.int 1],.tup [nM R,nT ps],o1,b1],Ug x:=fun x hx=>by
  have gp:=pm.1.1
  have gR:=jA.tg.1
  simp only[List.mem_cons,List.not_mem_nil,or_false] at hx
  rcases hx with rfl | rfl | rfl | rfl | rfl | rfl | rfl
  ·exact⟨.non,by simp[wt]⟩
  ·exact⟨gR.mono (Nat.le_refl _) (by decide),by lia⟩
  ·refine⟨.lst fun z hz=>?_,by simp only[wt,bf] at wR wps ⊢;lia⟩
   simp only[List.mem_cons,List.not_mem_nil,or_false] at hz
   rcases hz with rfl | rfl<;>assumption
  ·refine⟨.tup fun z hz=>?_,by simp only[wt,bf] at wR wps ⊢;lia⟩
   simp only[List.mem_cons,List.not_mem_nil,or_false] at hz
   rcases hz with rfl | rfl | rfl
   ·assumption
   ·assumption
   ·exact .int (by decide)
  ·refine⟨.tup fun z hz=>?_,by simp only[wt,bf] at wR wps ⊢;lia⟩
   simp only[List.mem_cons,List.not_mem_nil,or_false] at hz
   rcases hz with rfl | rfl<;>assumption
  ·exact⟨go.mono (by decide) (by decide),by lia⟩
  ·exact⟨g7.mono (by decide) (by decide),by lia⟩
 revert ug
 generalize [D.non,nM R,.lst [nT ps,nM R],.tup [nT ps,nM R,.int 1],.tup [nM R,nT ps],o1,b1]=Us
 intro ug
 refine aK fun K hK=>?_
 simp only[vV,bR,bF,aO,al,fF]
 generalize hpre:([some (.scr cs),some (nD k),some (.ref p),some (nD n),some (nT a),some (nT b),some (.tup [nT ps,nM R]),some (.lst [nM R,nM R6,nM R7])]:ao)=pre
 refine Rn.bind (cu (Mz pre p) _ 0 _ _ ⟨⟨_,_,_,_,_,by rw[←hpre];rfl⟩,hq3⟩ (fun s d δ N1 hj2 hI=>?_)) (fun r N1 hI=>?_)
 ·obtain⟨⟨y8,y9,y10,y11,y12,rfl⟩,hq⟩:=hI
  have ud:=ug d (List.mem_of_getElem? hj2)
  generalize 0+s+1=nx2
  obtain⟨β,e1,e2⟩:=zK t ud.1 ud.2
  obtain⟨sb,esb⟩:=(Gd.bl (B:=0) (n:=0) β).sh (by decide +kernel) (by decide) (by simp[wt])
  rw[lu,au]
  subst hpre
  simp[e1,e2,esb]
  exact Rn.pure ⟨_,rfl,⟨_,_,_,_,_,rfl⟩,hq⟩
 obtain⟨δ',rfl,⟨y8,y9,y10,y11,y12,rfl⟩,hq⟩:=hI
 subst hpre
 rw[hK];clear hK K ug
 -- refused
 have rg3:fU [.int 3]=some (.fix ((List.range 3).map nD)):=uv (n:=3) (by decide)
 have adA:(rd (cg (nT a) (.tup [.int 1])):DM D)=pure (nT (a++[1])):=DK (x:=a) (y:=[1]) (by simp;lia)
 have lot1:eZ (a++[1]):=⟨by simp,by simp;lia,by rw[List.sum_append];simp⟩
 have h1:=fun w (hw:w<3)=>Hd (v:=.str "unlike") hw (Ir t.h1 lot1 (by simp)) (.inr ⟨rfl,rfl⟩)
 have h2:=fun w (hw:w<3)=>Hd (v:=.str "lot") hw (KJ lot1 (Fe w1 (by lia))) (.inl ⟨rfl,rfl⟩)
 have c1:=lN (x:=none) (rest:=[some (nT a)]) (as:=List.range 3) (fe:=fun δ=>opt δ[0]?.join>>=fun x=>opt δ[1]?.join>>=fun y=>opt δ[1]?.join>>=fun z=>fY [.int 1]>>=fun o=>rd (cg z o)>>=fun w=>wM [x,y,w]) nD (fun _=>.str "unlike") (by simp) (fun x hx=>by
  simp only[bR,mt1,adA,h1 x (List.mem_range.mp hx)])
 have r1:(List.range 3).map (fun _:Nat=>D.str "unlike")=[.str "unlike",.str "unlike",.str "unlike"]:=rfl
 have r2:(List.range 3).map (fun _:Nat=>D.str "lot")=[.str "lot",.str "lot",.str "lot"]:=rfl
 have l1:∀x:Str,dN [.str x]=pure (.lst [.str x]):=fun x=>cO (by simp)
 have ml:∀x:Str,(rd (fun M=>Option.map D.lst (sG (.lst [.str x]) (.int 3) M)):DM D)=pure (.lst [.str x,.str x,.str x]):=fun x=>bH fun M=>rfl
 have ne1:(rd (du (.lst [.str "unlike",.str "unlike",.str "unlike"]) (.lst [.str "unlike",.str "unlike",.str "unlike"])):DM D)=pure (.bl false):=bH fun M=>by
  have:∀u:Str,PyData.strOk u=true->L3.eqB (.lst [.str u,.str u,.str u]) (.lst [.str u,.str u,.str u])=some true:=fun u hu=>by
   simp[L3.eqB,eqP,toPy,gb,PyData.canLay0,PyData.canLayAll0,PyData.depth,PyData.depthAll,PyData.eqv,PyData.eqvAll,hu]
  show (L3.eqB _ _).map (fun b=>D.bl (!b))=_
  rw[this _ (by decide +kernel)];rfl
 have ne2:(rd (du (.lst [.str "lot",.str "lot",.str "lot"]) (.lst [.str "lot",.str "lot",.str "lot"])):DM D)=pure (.bl false):=bH fun M=>by
  have:∀u:Str,PyData.strOk u=true->L3.eqB (.lst [.str u,.str u,.str u]) (.lst [.str u,.str u,.str u])=some true:=fun u hu=>by
   simp[L3.eqB,eqP,toPy,gb,PyData.canLay0,PyData.canLayAll0,PyData.depth,PyData.depthAll,PyData.eqv,PyData.eqvAll,hu]
  show (L3.eqB _ _).map (fun b=>D.bl (!b))=_
  rw[this _ (by decide +kernel)];rfl
 refine aK fun K hK=>?_
 simp only[bR,List.cons_append,List.nil_append,bF,aO,rg3,aP,bc,List.map_cons,List.map_nil,fL,List.length_cons,List.length_nil,List.replicate_succ,List.replicate_zero,Option.getD_some]
 rw[c1,r1]
 simp only[au,jc,l1,ml,ne1,oE,if_false,Bool.false_eq_true]
 rw[hK];clear hK K c1 r1 ne1
 have mt0:fY [.int 0]=pure (.tup [.int 0]):=dm (by simp)
 have mlT:(rd (Bc (.tup [.int 0]) (nD n)):DM D)=pure (nT (List.replicate n 0)):=bH fun M=>by
  show (if _ then _ else _)=_
  rw[if_pos]
  ·simp[nD,nT]
  ·first | decide | (simp[nD];lia) | (exact decide_eq_true ⟨by lia,by lia,by show _≤2^24;lia⟩)
 have c2:=lN (x:=none) (rest:=[some (nT a),some (nD n)]) (as:=List.range 3) (fe:=fun δ=>opt δ[0]?.join>>=fun x=>opt δ[1]?.join>>=fun z=>fY [.int 1]>>=fun o=>rd (cg z o)>>=fun w=>fY [.int 0]>>=fun q=>opt δ[2]?.join>>=fun y=>rd (Bc q y)>>=fun u=>wM [x,w,u]) nD (fun _=>.str "lot") (by simp) (fun x hx=>by
  simp only[bR,mt1,mt0,adA,mlT,h2 x (List.mem_range.mp hx)])
 simp only[bR,List.cons_append,List.nil_append,bF,aO,rg3,aP,bc,List.map_cons,List.map_nil,fL,List.length_cons,List.length_nil,List.replicate_succ,List.replicate_zero,Option.getD_some]
 rw[c2,r2]
 simp only[au,jc,l1,ml,ne2,oE,if_false,Bool.false_eq_true]
 exact Rn.pure ⟨_,rfl,_,_,_,_,_,_,_,_,_,_,_,_,rfl⟩
def Du(K:PySem.W.Frag):Bool:=K.all fun p=>!(p.2.cls==.type "list")
theorem J0 {K:PySem.W.Frag} (h:Du K=true) {a:Addr}{o:Obj} (e:K.lookup a=some o):o.cls≠.type "list":=by
 have:∀ (l:List (Addr×Obj)),(l.all fun p=>!(p.2.cls == .type "list"))=true->l.lookup a=some o->o.cls≠.type "list":=by
  intro l
  induction l with
  |nil=>intro _ e;cases e
  | cons p l ih=>
    intro h e
    rw[List.all_cons,Bool.and_eq_true] at h
    rw[List.lookup_cons] at e
    split at e
    ·cases e
     intro z
     rw[z] at h
     exact absurd h.1 (by decide)
    ·exact ih h.2 e
 exact this K h e
theorem rd_of{K:PySem.W.Frag}{H:Hp}{a:Addr}{xs:List V}(h:Du K=true)(s:SqL K H a xs):Rd H a (.lst xs):=by
 rcases s with s | ⟨o,its,n,e,c,_⟩
 ·exact s
 ·exact absurd c (J0 h e)
structure Cls(K:PySem.W.Frag)(mg:Str->Option Value)(CE_NoLot CE_Unlike CE0:Addr)(tg_MOST_PLACES:Tok):Prop where
 t:XTab K mg ww CE0
 m_FadeError:mg "FadeError"=some (.ref CE0)
 m_NoLot:mg "NoLot"=some (.ref CE_NoLot)
 m_Unlike:mg "Unlike"=some (.ref CE_Unlike)
 m_MOST_PLACES:mg "MOST_PLACES"=some (.int 25 tg_MOST_PLACES)
 nl:Du K=true
theorem Jf{K:PySem.W.Frag}{h:Heap}{mg:Str->Option Value}(X:K.In h)(G:h.Ns mainGlobals mg){CE_NoLot CE_Unlike CE0:Addr}{tg_MOST_PLACES:Tok}
  (cE0:PySem.W.nsIn K mainGlobals "FadeError"=some (some (.ref CE0)))
  (c_NoLot:PySem.W.nsIn K mainGlobals "NoLot"=some (some (.ref CE_NoLot)))
  (c_Unlike:PySem.W.nsIn K mainGlobals "Unlike"=some (some (.ref CE_Unlike)))
  (eE0:PySem.W.excIn K CE0 tu "ValueError.__new__"=true)
  (e_NoLot:PySem.W.excIn K CE_NoLot tu "ValueError.__new__"=true)
  (s_NoLot:PySem.W.mroIn K CE_NoLot (.ref CE0)=some true)
  (x1_NoLot:PySem.W.findIn K (.ref CE_NoLot) "__getattribute__"=some (some (.builtin "BaseException.__getattribute__")))
  (x2_NoLot:PySem.W.findIn K (.ref CE_NoLot) "__getattr__"=some none)
  (x3_NoLot:PySem.W.findIn K (.ref CE_NoLot) "__class__"=some (some (.builtin "object.__class__")))
  (x4_NoLot:PySem.W.mroIn K CE_NoLot (.type "object")=some true)
  (x5_NoLot:PySem.W.mroIn K CE_NoLot (.type "BaseException")=some true)
  (e_Unlike:PySem.W.excIn K CE_Unlike tu "ValueError.__new__"=true)
  (s_Unlike:PySem.W.mroIn K CE_Unlike (.ref CE0)=some true)
  (x1_Unlike:PySem.W.findIn K (.ref CE_Unlike) "__getattribute__"=some (some (.builtin "BaseException.__getattribute__")))
  (x2_Unlike:PySem.W.findIn K (.ref CE_Unlike) "__getattr__"=some none)
  (x3_Unlike:PySem.W.findIn K (.ref CE_Unlike) "__class__"=some (some (.builtin "object.__class__")))
  (x4_Unlike:PySem.W.mroIn K CE_Unlike (.type "object")=some true)
  (x5_Unlike:PySem.W.mroIn K CE_Unlike (.type "BaseException")=some true)
  (v_NoLot_NoLot:PySem.W.kitOne K (.ref CE_NoLot) (.ref CE_NoLot)=some true)
  (v_NoLot_Unlike:PySem.W.kitOne K (.ref CE_NoLot) (.ref CE_Unlike)=some false)
  (v_Unlike_NoLot:PySem.W.kitOne K (.ref CE_Unlike) (.ref CE_NoLot)=some false)
  (v_Unlike_Unlike:PySem.W.kitOne K (.ref CE_Unlike) (.ref CE_Unlike)=some true)
  (g_MOST_PLACES:PySem.W.nsIn K mainGlobals "MOST_PLACES"=some (some (.int 25 tg_MOST_PLACES)))
  (nl:Du K=true)
  : Cls K mg CE_NoLot CE_Unlike CE0 tg_MOST_PLACES:=by
 have m_NoLot:=PySem.W.mg_of X G c_NoLot
 have m_Unlike:=PySem.W.mg_of X G c_Unlike
 refine⟨⟨fun a ha=>?_,fun a ha b hb C D hC hD=>?_⟩,PySem.W.mg_of X G cE0,m_NoLot,m_Unlike,PySem.W.mg_of X G g_MOST_PLACES,nl⟩
 ·simp only[List.mem_cons,List.not_mem_nil,or_false] at ha
  rcases ha with rfl | rfl
  ·exact⟨CE_NoLot,⟨m_NoLot,e_NoLot⟩,⟨x1_NoLot,x2_NoLot,x3_NoLot,x4_NoLot,x5_NoLot⟩,⟨e_NoLot,eE0,s_NoLot⟩⟩
  ·exact⟨CE_Unlike,⟨m_Unlike,e_Unlike⟩,⟨x1_Unlike,x2_Unlike,x3_Unlike,x4_Unlike,x5_Unlike⟩,⟨e_Unlike,eE0,s_Unlike⟩⟩
 ·simp only[List.mem_cons,List.not_mem_nil,or_false] at ha hb
  rcases ha with rfl | rfl<;>rcases hb with rfl | rfl
  ·rw[m_NoLot] at hC;rw[m_NoLot] at hD;cases hC;cases hD;exact v_NoLot_NoLot
  ·rw[m_NoLot] at hC;rw[m_Unlike] at hD;cases hC;cases hD;exact v_NoLot_Unlike
  ·rw[m_Unlike] at hC;rw[m_NoLot] at hD;cases hC;cases hD;exact v_Unlike_NoLot
  ·rw[m_Unlike] at hC;rw[m_Unlike] at hD;cases hC;cases hD;exact v_Unlike_Unlike
def spLaw(K:PySem.W.Frag):Sp:=fun vs H Q _=>∃(a:Addr) (ns:List Int),vs=[.ref a]∧SqL K H a (ns.map V.int)∧ns.length≤63∧∀H',Q (.bl true) H'
theorem Ms{K:PySem.W.Frag}{mg:Str->Option Value}(nl:Du K=true){vs:List V}{H:Hp}{Q:VK}{E:XK}(h:spLaw K vs H Q E):KZ mg Ez vs H Q E:=by
 obtain⟨a,ns,rfl,hS,hl,q⟩:=h
 have rd:=rd_of nl hS
 obtain⟨d,M',e,ed⟩:=HN ns (by lia)
 refine⟨⟨[],[]⟩,[],[.scr ns],.cons (.scr (fun z=>by rcases z with z | z<;>cases z) rd) .nil,⟨rfl,List.nodup_nil,fun n a o h=>by simp at h,fun a h=>by cases h⟩,_,e,fun ρ' H' b x j c=>?_⟩
 subst ed
 cases c
 exact q H'
theorem Oj {P:Program}{w:World}{K:PySem.W.Frag}{mg:Str->Option Value}{base:Heap}{k:Nat}{x:Str}{N ps:List Str}{st:Stmt}{fb:ao->DM Fl}{f:Addr}{fd:FuncData} (F:Fun K x x st f fd) (S:FnScope N ps (defScope st))
  (hbody:∀(cdv:Value) (A:Around) (outer:List Env) (s:Shared) (H:Hp) (E:XK),Room k (A.deeper (PyProof.Rows.envOfC x (defScope st) s.heap.objs.size f cdv))->
    DSs (cB P w K mg base N x (defScope st) f cdv A outer s H E) E (defBody st) fb):FnOk P w K mg base (mO P w) (k+1) f fd ps (KZ mg (aL ps.length N.length fb)):=by
 refine MF F S (fun vs H Q E h=>?_) fun cdv A outer s H vs Q E hr h=>?_
 ·obtain⟨ρ,M,ds,c,j,g⟩:=h
  rw[c.len];exact (bB.aL g).1
 obtain⟨ρ,M,ds,c,j,g⟩:=h
 exact⟨_,(hbody cdv A outer s H E hr).h,ρ,_,M,rZ c,j,(bB.aL g).2⟩
theorem all_mk{P:Program}{w:World}{K:PySem.W.Frag}{mg:Mg}{fa:Addr}{CE_NoLot CE_Unlike CE0:Addr}{tg_MOST_PLACES:Tok}(hfa:mg "law"=some (.ref fa)){h:Heap}(X:K.In h)(G:h.Ns mainGlobals mg)(t0:TD K "is_whole" oX)(t1:TD K "greatest_divider" fG)(t2:TD K "least_multiple" gj)(t3:TD K "are_weights" jx)(t4:TD K "are_rows" oU)(t5:TD K "is_place" oW)(t6:TD K "is_rising" mJ)(t7:TD K "are_rising_places" eV)(t8:TD K "is_lot" sO)(t9:TD K "refuse_no_lot" ie)(t10:TD K "refuse_unlike_lots" dX)(t11:TD K "brought" qt)(t12:TD K "places_of_more" gk)(t13:TD K "more_in" qu)(t14:TD K "joins" uX)(t15:TD K "parted" sS)(t16:TD K "least_joining" gZ)(t17:TD K "is_joining" lD)(t18:TD K "is_paper" oV)(t19:TD K "paper_of" oY)(t20:TD K "_law_cell_at" iM)(t21:TD K "_law_pot" oR)(t22:TD K "_law_take" mH)(t23:TD K "_law_whole" lC)(t24:TD K "_law_within" ju)(t25:TD K "_law_mixed" lB)(t26:TD K "_law_odd" oO)(t27:TD K "_law_bent" iW)(t28:TD K "_law_gcd" oM)(t29:TD K "_law_lot" oN)(t30:TD K "_law_brought" iK)(t31:TD K "_law_sets" mF)(t32:TD K "_law_is_joining" fV)(t33:TD K "_law_parted" jr)(t34:TD K "_law_excess" jq)(t35:TD K "_law_joining" iQ)(t36:TD K "_law_is_places" gh)(t37:TD K "_law_heard" lz)(t38:TD K "_law_is_paper" gY)(t39:TD K "_law_spoilt" jt)(t40:TD K "law" Br)(z0:TB K "abs")(z1:TB K "all")(z2:TB K "any")(z3:TB K "bool")(z4:TB K "enumerate")(z5:TB K "int")(z6:TB K "isinstance")(z7:TB K "len")(z8:TB K "list")(z9:TB K "max")(z10:TB K "min")(z11:TB K "range")(z12:TB K "repr")(z13:TB K "set")(z14:TB K "sorted")(z15:TB K "sum")(z16:TB K "tuple")(Z:Cls K mg CE_NoLot CE_Unlike CE0 tg_MOST_PLACES) :
  ∃fd:FuncData,(∀(s:Shared) (v:Value),BindsTo s fd ⟨[v],[]⟩ [("_law_script",v)])∧∀base:Heap,K.In base->base.Ns mainGlobals mg->FnOk P w K mg base (mO P w) 16 fa fd ["_law_script"] (spLaw K):=by
 obtain⟨f,fd,F,m⟩:=(t40 X G).ex
 have e:=hfa.symm.trans m
 cases e
 refine⟨fd,?_,fun base _ _=>?_⟩
 ·obtain⟨oc,od,kV,doc,pm,an,cdv,ct,osl,rfl,_⟩:=F.ex
  exact fun s v=>.of_eq rfl
 have yz0:=PySem.W.mg_none_of X G z0
 have yz1:=PySem.W.mg_none_of X G z1
 have yz2:=PySem.W.mg_none_of X G z2
 have yz3:=PySem.W.mg_none_of X G z3
 have yz4:=PySem.W.mg_none_of X G z4
 have yz5:=PySem.W.mg_none_of X G z5
 have yz6:=PySem.W.mg_none_of X G z6
 have yz7:=PySem.W.mg_none_of X G z7
 have yz8:=PySem.W.mg_none_of X G z8
 have yz9:=PySem.W.mg_none_of X G z9
 have yz10:=PySem.W.mg_none_of X G z10
 have yz11:=PySem.W.mg_none_of X G z11
 have yz12:=PySem.W.mg_none_of X G z12
 have yz13:=PySem.W.mg_none_of X G z13
 have yz14:=PySem.W.mg_none_of X G z14
 have yz15:=PySem.W.mg_none_of X G z15
 have yz16:=PySem.W.mg_none_of X G z16
 have D0:DefD P w K mg base _ _ _ o7:=okd (t0 X G) zf ((ur).2 yz3 yz5 yz6)
 have D1:DefD P w K mg base _ _ _ wL:=okn (fun N=>cT N) (t1 X G) iy Lk fun N=>(fB N).2
 have D2:DefD P w K mg base _ _ _ BW:=okd (t2 X G) qU ((kZ wL).2 D1)
 have D3:DefD P w K mg base _ _ _ o6:=okd (t3 X G) u9 ((pG o7).2 D0 yz1 yz6 yz7 yz16)
 have D4:DefD P w K mg base _ _ _ vz:=okd (t4 X G) zb ((um o6).2 D3 yz1 yz6 yz7 yz16)
 have D5:DefD P w K mg base _ _ _ vA:=okd (t5 X G) zc ((uq o7).2 D0)
 have D6:DefD P w K mg base _ _ _ Fri:=okd (t6 X G) yN ((rK).2 yz1 yz7 yz11)
 have D7:DefD P w K mg base _ _ _ wU:=okd (t7 X G) oZ ((iu vA Fri).2 D5 D6 yz1 yz6 yz16)
 have D8:DefD P w K mg base _ _ _ zm:=okd (t8 X G) Ef ((yw o6).2 D3 Z.m_MOST_PLACES yz2 yz6 yz7 yz16)
 have D9:DefD P w K mg base _ _ _ wQ:=okd (t9 X G) sV ((lW zm).2 D8 Z.t Z.m_MOST_PLACES)
 have D10:DefD P w K mg base _ _ _ gF:=okd (t10 X G) nH ((gQ wQ).2 D9 Z.t yz7)
 have D11:DefD P w K mg base _ _ _ qX:=okd (t11 X G) ux ((vY BW).2 D2 yz15 yz16)
 have D12:DefD P w K mg base _ _ _ zp:=okd (t12 X G) qW ((lg).2 yz7 yz11 yz16)
 have D13:DefD P w K mg base _ _ _ BX:=okd (t13 X G) Bs ((vZ).2 yz15)
 have D14:DefD P w K mg base _ _ _ qZ:=okd (t14 X G) yO ((zV vz).2 D4 yz7 yz8 yz11 yz15 yz16)
 have D15:DefD P w K mg base _ _ _ Ca:=okd (t15 X G) Ei ((yx).2 yz4 yz15)
 have D16:DefD P w K mg base _ _ _ BR:=okd (t16 X G) lF ((gP).2 yz7 yz10 yz11 yz16)
 have D17:DefD P w K mg base _ _ _ mj:=okd (t17 X G) pJ ((qe gF qX qZ).2 D10 D11 D14)
 have D18:DefD P w K mg base _ _ _ gD:=okd (t18 X G) rQ ((uo gF qX qZ wU BX Ca).2 D10 D11 D14 D7 D13 D15 yz6 yz7 yz16)
 have D19:DefD P w K mg base _ _ _ rm:=okd (t19 X G) rR ((oA gF qX BR zp).2 D10 D11 D16 D12)
 have D20:DefD P w K mg base _ _ _ zj:=okd (t20 X G) uw ((nu).2 yz7)
 have D21:DefD P w K mg base _ _ _ zq:=okd (t21 X G) rP ((ul).2 yz11)
 have D22:DefD P w K mg base _ _ _ jR:=okd (t22 X G) qx ((rJ).2 )
 have D23:DefD P w K mg base _ _ _ o8:=okd (t23 X G) wA ((qd).2 yz3 yz5 yz6)
 have D24:DefD P w K mg base _ _ _ vB:=okd (t24 X G) uZ ((pF o8).2 D23)
 have D25:DefD P w K mg base _ _ _ BZ:=okd (t25 X G) pI ((kY jR).2 D22 yz7 yz8)
 have D26:DefD P w K mg base _ _ _ q9:=okd (t26 X G) rO ((ou jR).2 D22 yz7)
 have R27:∀n,DefD P w K mg base (2+n) _ _ (qY n):=fun n=>by
  induction n with
  |zero=>exact (okd (k:=1) (t27 X G) lE fun _=>CN)
  |succ n ih=>exact okd (t27 X G) lE ((mC jR o8 q9 (qY n)).2 (Nat.le_add_right _ _) D22 D23 D26 ih yz6 yz7 yz8 yz16)
 have D27:DefD P w K mg base _ _ _ (qY 8):=R27 _
 have D28:DefD P w K mg base _ _ _ wK:=okn (fun N=>gG N) (t28 X G) rM Lj fun N=>(oh N).2 yz0
 have D29:DefD P w K mg base _ _ _ BV:=okd (t29 X G) rN ((uh jR).2 D22 yz11 yz16)
 have D30:DefD P w K mg base _ _ _ tK:=okd (t30 X G) lX ((nq wK).2 D28 yz15 yz16)
 have D31:DefD P w K mg base _ _ _ Ce:=okd (t31 X G) qw ((mD).2 yz11)
 have D32:DefD P w K mg base _ _ _ jC:=okd (t32 X G) jf ((fQ tK o8).2 D30 D23 yz1 yz6 yz7 yz11 yz15 yz16)
 have D33:DefD P w K mg base _ _ _ wN:=okd (t33 X G) uY ((pD).2 yz4 yz15)
 have D34:DefD P w K mg base _ _ _ BL:=okd (t34 X G) nF ((pC tK).2 D30 yz15)
 have D35:DefD P w K mg base _ _ _ BP:=okd (t35 X G) lY ((iI tK BZ).2 D30 D25 yz7 yz8 yz10 yz11 yz16)
 have D36:DefD P w K mg base _ _ _ wO:=okd (t36 X G) qT ((kW vB).2 D24 yz1 yz6 yz8 yz13 yz14 yz16)
 have D37:DefD P w K mg base _ _ _ wM:=okd (t37 X G) pH ((kO mj gD rm).2 D17 D18 D19 Z.t Z.m_NoLot Z.m_Unlike Z.m_FadeError yz6)
 have D38:DefD P w K mg base _ _ _ nP:=okd (t38 X G) sU ((lV wO jC BL wN).2 D36 D32 D34 D33 yz6 yz7 yz16)
 have D39:DefD P w K mg base _ _ _ Cd:=okd (t39 X G) nG ((jo jR q9 (qY 8)).2 D22 D26 D27 yz7 yz8 yz10 yz11 yz16)
 exact ((Oj (P:=P) (w:=w) (base:=base) F Eg fun cdv A outer s H E hr=>(Bj zj zq jR BV rm BP Cd mj jC Ce q9 nP gD (qY 8) wM).2 D20 D21 D22 D29 D19 D35 D39 D17 D32 D31 D26 D38 D18 D27 D37 yz7 yz8 yz9 yz10 yz11 yz12 hr).imp fun vs H Q E h=>Ms Z.nl h).mono (by decide)
theorem walk {l:PySem.W.OpenLaw}{q:Program}{loose:List Str}{XP:(Str->Option Value)->Heap->Prop}{YP:World->Heap->Prop}{d:DefRec}{K:Params->PySem.W.Frag} (hn:l.most=some 63) (hdf:d.params.defaults=[])
  (hY:∀(w:World) (h:Heap),YP w h->(K w.params).In h)
  (F:∀(w:World) (mg:Str->Option Value) (fa:Addr) (h:Heap),(K w.params).In h->h.Ns mainGlobals mg->mg d.name=some (.ref fa)->
    ∃fd:FuncData,(∀(s:Shared) (u:Value),BindsTo s fd ⟨[u],[]⟩ [("_law_script",u)])∧∀base:Heap,(K w.params).In base->base.Ns mainGlobals mg->FnOk l.prog w (K w.params) mg base (mO l.prog w) 16 fa fd ["_law_script"] (spLaw (K w.params))) :
  PySem.W.WalkO q loose XP YP l.row.toRowW d [] (fun f vs=>PySem.call f vs):=
 L2.walk_of (n:=63) (k:=16) (x := "_law_script") (CX:=fun w=>mO l.prog w) (sp:=fun w=>spLaw (K w.params)) hn (by decide) hdf ⟨rfl,by decide,by decide,rfl⟩ hY F (fun _ _ a ns hl _ hS=>⟨a,ns,rfl,hS,hl,fun _=>rfl⟩) fun _ _ _ _ _ z=>by
  obtain⟨_,_,_,_,_,_,_,_,_,_,_,_,_,q⟩:=z
  exact q.elim
end K
open PySem PySem.W PyProof.Rows
set_option maxRecDepth 100000 in
set_option maxHeartbeats 0 in
theorem PySem.Challenge.cw_fadewalk_k11_joinings_and_papers_looked_holds : PySem.Challenge.rw_fadewalk_k11_joinings_and_papers_looked.Holds := by
 w_on;refine T.cut ?_
 k_fill
 refine K.walk (l:=PySem.Challenge.rw_fadewalk_k11_joinings_and_papers_looked) rfl rfl (fun w h Y=>PySem.W.kIn_of Y) ?F
 case F=>
  intro w mg fa h KX G hmg
  refine' K.all_mk hmg KX G ?t0 ?t1 ?t2 ?t3 ?t4 ?t5 ?t6 ?t7 ?t8 ?t9 ?t10 ?t11 ?t12 ?t13 ?t14 ?t15 ?t16 ?t17 ?t18 ?t19 ?t20 ?t21 ?t22 ?t23 ?t24 ?t25 ?t26 ?t27 ?t28 ?t29 ?t30 ?t31 ?t32 ?t33 ?t34 ?t35 ?t36 ?t37 ?t38 ?t39 ?t40 ?z0 ?z1 ?z2 ?z3 ?z4 ?z5 ?z6 ?z7 ?z8 ?z9 ?z10 ?z11 ?z12 ?z13 ?z14 ?z15 ?z16 (K.Jf KX G ?cE0 ?c_NoLot ?c_Unlike ?eE0 ?e_NoLot ?s_NoLot ?x1_NoLot ?x2_NoLot ?x3_NoLot ?x4_NoLot ?x5_NoLot ?e_Unlike ?s_Unlike ?x1_Unlike ?x2_Unlike ?x3_Unlike ?x4_Unlike ?x5_Unlike ?v_NoLot_NoLot ?v_NoLot_Unlike ?v_Unlike_NoLot ?v_Unlike_Unlike ?g_MOST_PLACES ?nl)
  case cE0 | c_NoLot | c_Unlike | eE0 | e_NoLot | s_NoLot | x1_NoLot | x2_NoLot | x3_NoLot | x4_NoLot | x5_NoLot | e_Unlike | s_Unlike | x1_Unlike | x2_Unlike | x3_Unlike | x4_Unlike | x5_Unlike | v_NoLot_NoLot | v_NoLot_Unlike | v_Unlike_NoLot | v_Unlike_Unlike | g_MOST_PLACES | nl=>first | k_is | k_exc | kernel_rfl
  case t0 | t1 | t2 | t3 | t4 | t5 | t6 | t7 | t8 | t9 | t10 | t11 | t12 | t13 | t14 | t15 | t16 | t17 | t18 | t19 | t20 | t21 | t22 | t23 | t24 | t25 | t26 | t27 | t28 | t29 | t30 | t31 | t32 | t33 | t34 | t35 | t36 | t37 | t38 | t39 | t40=>apply L3.Mt<;>k_is
  case z0 | z1 | z2 | z3 | z4 | z5 | z6 | z7 | z8 | z9 | z10 | z11 | z12 | z13 | z14 | z15 | z16=>delta L3.TB;k_is
