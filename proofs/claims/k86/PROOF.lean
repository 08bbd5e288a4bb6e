import PyProof.Rows.All
import Wide.All
import OpenK.AllK
import Wide.FinOn
import Lean
import PyProof.EqAt
import PyProof.EqKinds
import PyProof.TupleCall
import PyProof.ReprRoads
import PyProof.P3Eq
import PyProof.NeData
import PyProof.ReprLen
import PyProof.Rows.RegStrFacts
import OpenK.KOwn
import PyProof.StationsW
import PyProof.Rows.Catch
import PyProof.Rows.Own
import PyProof.RulesAs
import PyProof.ExcBaseAll.ValueError
import PyProof.NsDelKeeps
import PyProof.ExcArgsOwn
import PyProof.ExcAttrAll.ValueError
import PyProof.CompFree
import PyProof.CompMap
import PyProof.ConsumeWalk
import PyProof.SumWalk
import PyProof.Rows.TupIter
import PyProof.Rows.SumGenD
import PyProof.FString
import PyProof.Rows.FStr
import PyProof.Rows.RuleIs
import PyProof.FactsAll.tuple_iterator_1
import PyProof.FactsAll.tuple_2
import PyProof.FactsAll.list_3
import PyProof.Cells
import PyProof.ZipIter
import PyProof.EnumMake
import PyProof.EnumFor
import PyProof.ListRange
import PyProof.TupleOfSeq
import PyProof.AttrMissHeap
import KE.KDictOf
import KE.KItemsList
import PyProof.DictValues
import PyProof.DictItemsLoops
import PyProof.DictWalks
import PyProof.Rows.SetFrom
import PyProof.Rows.SortShell
import PyProof.CollectWalk
import PyProof.FactsAll.set_1
import PyProof.Rows.SortWalk
import PyProof.FactsAll.set_2
import KE.KDictSum
import PyProof.Rows.Range3
import PyProof.Conv_bool
import KE.KRevIter
import PyProof.FactsAll.range_2
import KE.KSortTup
import PyProof.WalkInts
import PyProof.TupleKey
import PyProof.IsRules
import KE.KTupSum
import PyProof.SeqI3
import PyProof.Conv_int_bool
import PyProof.ListOps
import KE.KDictLaws
import PyProof.CallStr
import PyProof.StrOps
import PySem.Challenge.RW_fadewalk_k86_a_keeper_deed_by_deed
set_option Elab.async false
set_option maxRecDepth 100000
set_option maxHeartbeats 8000000
namespace T
open PySem PySem.W PyProof.Rows
/-- the top's run over a tree -/
noncomputable def runT (p:Program) (w:World) (m:Nat) (a:Option Value):Nat->SharedT->Thread->Option SharedT
 | 0,_,_=>none
 | n + 1,s,t=>match through t with
   | true=>some s
   | false=>match stepOk m a t with
     | false=>none
     | true=>match stepT (denote treeTable) p w s t with
       | some r=>runT p w m a n r.1 r.2
       | none=>none
theorem run_of {p:Program}{w:World}{m:Nat}{a:Option Value}:∀ {n:Nat}{s s':SharedT}{t:Thread},runT p w m a n s t=some s'->topRun treeTable p w m a n s.abs t=some s'.abs
 | 0,_,_,_,h=>by cases h
 | n + 1,s,s',t,h=>by
   unfold runT at h
   unfold topRun
   cases ht:through t with
   | true=>rw [ht] at h;cases h;rfl
   | false=>
     rw [ht] at h
     cases hk:stepOk m a t with
     | false=>rw [hk] at h;cases h
     | true=>
       rw [hk] at h
       cases hs:stepT (denote treeTable) p w s t with
       | none=>rw [hs] at h;cases h
       | some r=>obtain ⟨s2,t2⟩:=r;rw [hs] at h;rw [stepT_spec hs];exact run_of h
noncomputable def grow:List Obj->Nat->BT->BT
 | [],_,t=>t
 | o::l,n,t=>grow l (n + 1) (t.ins n o)
noncomputable def bootT (B:Heap) (os:OsState):SharedT:=⟨grow B.objs.toList 0 .nil,B.objs.size,B.life,#[],boot_drawn,boot_toks,os⟩
noncomputable def bootA (w:World) (os:OsState):Shared:=⟨boot_heap w.params,#[],boot_drawn,boot_toks,os⟩
theorem boot_abs (w:World) (os:OsState):(bootT (boot_heap w.params) os).abs=bootA w os:=by kernel_rfl
theorem boot_ns (w:World):((boot_heap w.params).isNs mainGlobals && (#[]:Array GenState).size == 0)=true:=by kernel_rfl
noncomputable def chk {α:Type} (p q:Program) (loose:List Str) (Xt:Shared->Bool) (Yf:Shared->α) (N:Nat) (B:Heap) (w:World) (os:OsState):=
 (runT p w B.objs.size (B.nsMap mainGlobals "__annotations__") N (bootT B os) (topStub p)).map fun s=>
   (staticsOk (importedModules p.main.body) B s.abs.heap && namesBound p s.abs.heap && gensDone s.abs && laidKept B s.abs.heap,openSeen q loose (importedModules p.main.body) Xt true s.abs,Yf s.abs)
theorem left {α:Type}{p q:Program}{loose:List Str}{Xt:Shared->Bool}{Yf:Shared->α}{Ya:World->α}{N:Nat} (e:opening p=plainProg p.main.scope.names) (hN:Nat.ble 600 N=true) (f:∀ s,fenceModules? p s=some s)
  (h:∀ (w:World) (os:OsState),chk p q loose Xt Yf N (boot_heap w.params) w os=some (true,openGood q loose,Ya w)):LeftO p q loose Xt Yf Ya N:=fun w=>by
 obtain ⟨⟨hh,gs,d,k,os⟩,e1,e2⟩:=Option.map_eq_some_iff.mp (boot_open (N:=N) e hN f w)
 obtain ⟨rfl,rfl,rfl,rfl⟩:hh=boot_heap w.params∧gs=#[]∧d=boot_drawn∧k=boot_toks:=by simpa using e2
 obtain ⟨s,r1,r2⟩:=Option.map_eq_some_iff.mp (h w os)
 have r:=run_of r1
 rw [boot_abs] at r
 obtain ⟨l1,l2,l3⟩:_∧_∧_:=by simpa only [Prod.mk.injEq] using r2
 unfold openEnds topFrom
 rw [e1]
 show (match (boot_heap w.params).isNs mainGlobals && (#[]:Array GenState).size == 0 with | true=>_ | false=>_:Option Shared).map _=_
 rw [boot_ns]
 show ((topRun treeTable p w (boot_heap w.params).objs.size _ N (bootA w os) (topStub p)).bind _).map _=_
 rw [r]
 show (match staticsOk (importedModules p.main.body) (boot_heap w.params) s.abs.heap && namesBound p s.abs.heap && gensDone s.abs && laidKept (boot_heap w.params) s.abs.heap with | true=>_ | false=>_:Option Shared).map _=_
 rw [l1]
 show some (openSeen q loose (importedModules p.main.body) Xt true s.abs,Yf s.abs)=some _
 rw [l2,l3]
noncomputable def tp (i:Nat):Stmt:=PySem.Challenge.pw_fadewalk_k86_a_keeper_deed_by_deed.main.body.getD i (.Pass ⟨0,0,0,0⟩)
noncomputable def view:Program:={ PySem.Challenge.pw_fadewalk_k86_a_keeper_deed_by_deed with main:={ PySem.Challenge.pw_fadewalk_k86_a_keeper_deed_by_deed.main with body:=[tp 0,tp 2,tp 3,tp 4,tp 5,tp 6,tp 7,tp 8,tp 9,tp 10,tp 11,tp 12,tp 13,tp 14,tp 15,tp 16,tp 17,tp 18,tp 19,tp 20,tp 21,tp 22,tp 24,tp 26,tp 27,tp 28,tp 29,tp 30,tp 31,tp 33,tp 34,tp 35,tp 36,tp 37,tp 38,tp 39,tp 41,tp 43,tp 44,tp 46,tp 47,tp 48,tp 50,tp 51,tp 52,tp 53,tp 54,tp 55,tp 56,tp 57,tp 58,tp 59,tp 60,tp 61,tp 62] } }
noncomputable def loos:List Str:=["Walk", "Keeper"]
noncomputable def lvs:List (Str×WData):=[]
noncomputable def lhs (B:Heap) (as ts:List Addr) (w:World) (os:OsState):=chk PySem.Challenge.pw_fadewalk_k86_a_keeper_deed_by_deed view loos (fun s=>xlAt view lvs s && recOk (RowW.records (OpenRow.toRowW (OpenLaw.row PySem.Challenge.rw_fadewalk_k86_a_keeper_deed_by_deed))) s) (fun s=>(as.map s.heap.get?,ts.map s.heap.get?)) 13640 B w os
noncomputable def rhs (K:Params->Frag) (ts:List Addr) (w:World):=some (true,openGood view loos,((K w.params).map fun p=>some p.2,ts.map fun _=>some (tabObj #[])))
end T
noncomputable def PySem.W.Fast.tw10831797614015443602:PySem.Program:=PySem.Challenge.pw_fadewalk_k86_a_keeper_deed_by_deed
theorem PySem.W.Fast.te10831797614015443602:PySem.Challenge.pw_fadewalk_k86_a_keeper_deed_by_deed=PySem.W.Fast.tw10831797614015443602:=rfl
namespace T
open PySem PySem.W PyProof.Rows
lay_quick T.lhs T.rhs
theorem hook {K:Params->Frag}{as:List Addr}{e:∀ P,as=(K P).map (·.1)}{ts:List Addr} (h:∀ (w:World) (os:OsState),PySem.W.Fast.tw12313586583820656202 (boot_heap w.params) as ts w os=PySem.W.Fast.tw7420988445182104193 K ts w) :
  LeftO PySem.Challenge.pw_fadewalk_k86_a_keeper_deed_by_deed view loos (fun s=>xlAt view lvs s && recOk (RowW.records (OpenRow.toRowW (OpenLaw.row PySem.Challenge.rw_fadewalk_k86_a_keeper_deed_by_deed))) s) (Hook.obs (kmHook K as e ts)) (Hook.val (kmHook K as e ts)) 13640:=
 left rfl (by decide) (fun _=>rfl) fun w os=>by
  show lhs (boot_heap w.params) as ts w os=rhs K ts w
  rw [PySem.W.Fast.te12313586583820656202,PySem.W.Fast.te7420988445182104193]
  exact h w os
local macro_rules
 | `(tactic| o_head $H)=>`(tactic| (
   refine PySem.W.holds_open (q:=T.view) (loose:=T.loos)
    (Xt:=fun s=>PySem.W.xlAt T.view T.lvs s && PySem.W.recOk (PySem.W.RowW.records (PySem.W.OpenRow.toRowW (PySem.W.OpenLaw.row PySem.Challenge.rw_fadewalk_k86_a_keeper_deed_by_deed))) s)
    (XP:=PySem.W.XL T.view T.lvs) (Yf:=PySem.W.Hook.obs $H) (Ya:=PySem.W.Hook.val $H)
    (YP:=PySem.W.Hook.says $H) (N:=13640) ?hl (PySem.W.Hook.of $H) (PySem.W.Hook.keeps $H)
    (fun s e=>PySem.W.xl_of s (Bool.and_eq_true_iff.mp e).1) PySem.W.XL.keeps rfl rfl rfl
    (fun s e=>PySem.W.recFacts_of (Bool.and_eq_true_iff.mp e).2) rfl
    (by first | assumption | decide +kernel) (by decide +kernel)
    ⟨rfl,rfl,rfl,rfl,rfl,by decide +kernel⟩ ?hw ?hc;(case hl=>exact T.hook (fun w os=>by kernel_rfl))))
open_top cut for PySem.Challenge.rw_fadewalk_k86_a_keeper_deed_by_deed
end T
set_option linter.all false
namespace L2
open PySem PySem.Spec PyProof.Rows
abbrev Key:=Sum Int Str
def keyIs:Key->Value->Bool
 |.inl k,v=>Value.isInt k v
 |.inr x,v=>Value.isStrOf x v
def keyH(w:World):Key->Int
 |.inl k=>hashInt k
 |.inr x=>hashStr w x
theorem keyIs_shape:∀ {k:Key}{v:Value},keyIs k v=true->(∃ i t,k=Sum.inl i∧v=Value.int i t)∨(∃ x t,k=Sum.inr x∧v=Value.str x t)
 |.inl i,v,h=>by
   obtain⟨t,e⟩:=Value.isInt_shape (k:=i) (v:=v) h
   exact .inl ⟨i,t,rfl,e⟩
 |.inr x,v,h=>by
   obtain⟨t,e⟩:=Value.isStrOf_shape (x:=x) (v:=v) h
   exact .inr ⟨x,t,rfl,e⟩
theorem key_ll(a b:Int):decide ((Sum.inl a:Key)=Sum.inl b)=(a==b):=by
 by_cases e:a=b
 ·subst e;simp
 ·have h:¬ (Sum.inl a:Key)=Sum.inl b:=fun q=>e (Sum.inl.inj q)
  rw[decide_eq_false h]
  exact (beq_eq_false_iff_ne.mpr e).symm
theorem key_rr(a b:Str):decide ((Sum.inr a:Key)=Sum.inr b)=decide (a=b):=by
 by_cases e:a=b
 ·subst e;simp
 ·have h:¬ (Sum.inr a:Key)=Sum.inr b:=fun q=>e (Sum.inr.inj q)
  rw[decide_eq_false h,decide_eq_false e]
theorem key_lr(a:Int)(b:Str):decide ((Sum.inl a:Key)=Sum.inr b)=false:=decide_eq_false (fun q=>nomatch q)
theorem key_rl(a:Str)(b:Int):decide ((Sum.inr a:Key)=Sum.inl b)=false:=decide_eq_false (fun q=>nomatch q)
def mixKind (prog:Program) (w:World):PySem.KeyKind prog w Key where
 is:=keyIs
 hash:=keyH w
 inj:=fun v a b ha hb=>by
  rcases keyIs_shape ha with ⟨i,t,rfl,rfl⟩ | ⟨x,t,rfl,rfl⟩
  ·rcases keyIs_shape hb with ⟨j,u,rfl,e⟩ | ⟨y,u,rfl,e⟩
   ·injection e with e1 _;rw[e1]
   ·exact nomatch e
  ·rcases keyIs_shape hb with ⟨j,u,rfl,e⟩ | ⟨y,u,rfl,e⟩
   ·exact nomatch e
   ·injection e with e1 _;rw[e1]
 byValue:=fun k v h=>by
  rcases keyIs_shape h with ⟨i,t,rfl,rfl⟩ | ⟨x,t,rfl,rfl⟩<;>rfl
 pyHash:=fun hv h=>by
  rcases keyIs_shape hv with ⟨i,t,rfl,rfl⟩ | ⟨x,t,rfl,rfl⟩
  ·exact wpAny_pyHash_int h
  ·exact wpAny_pyHash_str h
 eqBool:=fun hu hv h=>by
  rcases keyIs_shape hu with ⟨i,t,rfl,rfl⟩ | ⟨x,t,rfl,rfl⟩
  ·rcases keyIs_shape hv with ⟨j,u,rfl,rfl⟩ | ⟨y,u,rfl,rfl⟩
   ·rw[key_ll] at h;exact wpAny_eqBool_int h
   ·rw[key_lr] at h;exact SeqAt.EqAt.int_str i t y u _ _ _ _ h
  ·rcases keyIs_shape hv with ⟨j,u,rfl,rfl⟩ | ⟨y,u,rfl,rfl⟩
   ·rw[key_rl] at h;exact SeqAt.EqAt.str_int x t j u _ _ _ _ h
   ·rw[key_rr] at h;exact wpAny_eqBool_str h
 «strs»:=fun k x t v h=>by
  rcases keyIs_shape h with ⟨i,u,rfl,e⟩ | ⟨y,u,rfl,e⟩
  ·exact nomatch e
  ·injection e with e1 _
   subst e1
   cases v<;>rfl
open PySem PySem.Spec PyProof.Rows
inductive V where
 |non | bl (b:Bool) | int (i:Int) | str (x:Str) | byt (b:Array UInt8) | flt (b:UInt64) | ref (a:Addr) | ty (n:String)
 deriving DecidableEq
def RelV:V->Value->Prop
 |.non,u=>u=Value.none
 |.bl b,u=>u=Value.bool b
 |.int i,u=>∃t,u=Value.int i t
 |.str x,u=>∃t,u=Value.str x t
 |.byt b,u=>∃t,u=Value.bytes b t
 |.flt b,u=>∃t,u=Value.float b t
 |.ref a,u=>u=Value.ref a
 |.ty n,u=>u=Value.type n
abbrev Vals:List V->List Value->Prop:=Paired RelV
theorem Vals.length(r:Vals xs us):xs.length=us.length:=Paired.length r
theorem Vals.get:∀ {xs:List V}{us:List Value}{i:Nat}{x:V},Vals xs us->xs[i]?=some x->∃ u,us[i]?=some u∧RelV x u
 |_,_,_,_,.nil,e=>by simp at e
 |_,_,0,_,.cons r _,e=>by simp at e;subst e;exact⟨_,rfl,r⟩
 |_,_,i+1,x,.cons _ t,e=>by
   obtain⟨u,h1,h2⟩:=Vals.get (i:=i) (x:=x) t (by simpa using e)
   exact⟨u,by simpa using h1,h2⟩
theorem Vals.set(r:RelV x u):∀{xs:List V}{us:List Value} (i:Nat),Vals xs us->Vals (xs.set i x) (us.set i u)
 |_,_,_,.nil=>.nil
 |_,_,0,.cons _ t=>.cons r t
 |_,_,i+1,.cons q t=>.cons q (Vals.set r i t)
theorem Vals.append:∀{xs ys:List V}{us ws:List Value},Vals xs us->Vals ys ws->Vals (xs++ys) (us++ws)
 |_,_,_,_,.nil,s=>s
 |_,_,_,_,.cons r t,s=>.cons r (Vals.append t s)
theorem Vals.take:∀{xs:List V}{us:List Value} (n:Nat),Vals xs us->Vals (xs.take n) (us.take n)
 |_,_,0,_=>.nil
 |_,_,_+1,.nil=>.nil
 |_,_,n+1,.cons r t=>.cons r (Vals.take n t)
theorem Vals.drop:∀{xs:List V}{us:List Value} (n:Nat),Vals xs us->Vals (xs.drop n) (us.drop n)
 |_,_,0,r=>r
 |_,_,_+1,.nil=>.nil
 |_,_,n+1,.cons _ t=>Vals.drop n t
theorem Vals.none_of:∀{xs:List V}{us:List Value}{i:Nat},Vals xs us->xs[i]?=none->us[i]?=none:=fun {xs us i} r e=>by
 have h1:=r.length
 have h2:xs.length≤i:=List.getElem?_eq_none_iff.mp e
 exact List.getElem?_eq_none_iff.mpr (by omega)
def RelO:Option V->Option Value->Prop
 |some v,some u=>RelV v u
 |none,none=>True
 |_,_=>False
def KV{κ:Type}:List (κ×V)->List (κ×Value)->Prop:=Paired fun (p:κ×V) (q:κ×Value)=>p.1=q.1∧RelV p.2 q.2
def kV:Key->V
 |.inl i=>.int i
 |.inr x=>.str x
inductive HO where
 /-- a list -/
 |lst (xs:List V)
 /-- a tuple (never changes) -/
 |tup (xs:List V)
 /-- a dict whose keys are ints and texts;one whose keys are tuples of ints and texts (the empty one is both) -/
 |dK (kvs:List (Key×V)) | dT (kvs:List (List Key×V))
 /-- a set of ints: its members,its size -/
 |set (S:Int->Bool) (n:Nat)
 /-- an instance of the class at C,its dict at dx,its attributes -/
 |ins (C dx:Addr) (fs:List (Str×V))
 /-- the dict of the instance at x -/
 |own (x:Addr)
 /-- the dict of an exception -/
 |xd (fs:List (Str×V))
 /-- a bound method,f of x -/
 |met (f x:Addr)
 /-- a range object lo,lo+1,.. below hi -/
 |rng (lo hi:Int)
 /-- a thing that is known to the object (the script;a dict while a loop walks it): read,never written while it is so -/
 |frz (o:Obj) (u:HO)
 /-- a code object's table -/
 |tbl (ps:Array Value)
 /-- any other thing,by what is true of its one object (a def of one's own: SetO a S n:=HO.ext fun h=>..) -/
 |ext (φ:Heap->Prop)
abbrev Hp:=Addr->Option HO
def upd(H:Hp)(a:Addr)(o:HO):Hp:=fun b=>if b=a then some o else H b
theorem upd_same{H:Hp}{a:Addr}{o:HO}:upd H a o a=some o:=by unfold upd;rw[if_pos rfl]
theorem upd_ne{H:Hp}{a b:Addr}{o:HO}(h:b≠a):upd H a o b=H b:=by unfold upd;rw[if_neg h]
theorem ne_of_none{H:Hp}{a b:Addr}{o:HO}(h:H a=some o)(h':H b=none):a≠b:=by
 intro e;subst e;rw[h] at h';cases h'
def RecAt(H:Hp)(v:Value):Prop:=∃c o fs q t,v=.ref c∧H c=some (.frz o (.own c))∧o.data=.fields fs∧fs[1]?=some (.str q t)
section
variable(P:Program)(w:World)
def ObjOk (H:Hp) (h:Heap) (a:Addr):HO->Prop
 |.lst xs=>xs.length≤sizeLine∧∃(its:List Value) (n:Nat),Vals xs its∧h.get? a=some { cls:=.type "list",data:=.seq its.toArray n }
 |.tup xs=>xs.length≤sizeLine∧∃its:List Value,Vals xs its∧IsTup h a its.toArray
 |.dK kvs=>kvs.length≤sizeLine∧(a==sysModules)=false∧∃vs,KV kvs vs∧h.DictOf (mixKind P w) a vs
 |.dT kvs=>kvs.length≤sizeLine∧(a==sysModules)=false∧∃xs:List (List Key×Addr×Value),
   Paired (fun (p:List Key×V) (q:List Key×Addr×Value)=>p.1=q.1∧H q.2.1=some (.tup (p.1.map kV))∧RelV p.2 q.2.2) kvs xs ∧
   ∃o es ep,h.get? a=some o∧o.ExactDict∧o.data=.dict es ep∧es.toList=xs.map (entryOfKey (tupleKind (mixKind P w)))∧(xs.map (·.1)).Nodup
 |.set S n=>h.SetOf (intKind P w) a S n
 |.ins C dx fs=>H dx=some (.own a)∧fs.length≤1000∧dx≠a∧h.get? a=some (PySem.W.instObj C dx) ∧
   ∃mA,h.Ns1 dx mA∧(∀f,RelO (fs.lookup f) (mA f))∧PySem.Within mA (fs.map (·.1))
 |.own _=>∃o,h.get? a=some o
 |.xd fs=>∃mA,h.Ns1 a mA∧∀f,RelO (fs.lookup f) (mA f)
 |.rng lo hi=>∃t u v,h.get? a=some { cls:=.type "range",data:=.fields #[.int lo t,.int hi u,.int 1 v] }
 |.frz o u=>h.get? a=some o∧ObjOk H h a u
 |.tbl _=>∃ps:Array Value,h.get? a=some { cls:=.none,data:=.fields ps }∧TriplesOk ps.toList∧∀pos cv,codeAmong pos ps.toList=some cv->RecAt H cv
 |.met f x=>h.get? a=some (PySem.W.methodObj (.ref f) (.ref x))
 |.ext φ=>φ h∧(∃o,h.get? a=some o)∧∀h1 h2:Heap,φ h1->(∀o,h1.get? a=some o->h2.get? a=some o)->φ h2
def HOk(H:Hp)(h:Heap):Prop:=∀a o,H a=some o->ObjOk P w H h a o
end
section
variable{P:Program}{w:World}{H H':Hp}{h h':Heap}{a:Addr}{o:HO}
theorem ObjOk.lt(x:ObjOk P w H h a o):a<h.objs.size:=by
 cases o with
 |lst xs=>obtain⟨_,_,_,_,e⟩:=x;exact Heap.lt_size e
 |tup xs=>obtain⟨_,_,_,p⟩:=x;exact p.lt
 |dK kvs=>obtain⟨_,_,_,_,o,_,_,e,_⟩:=x;exact Heap.lt_size e
 |dT kvs=>obtain⟨_,_,_,_,o,_,_,e,_⟩:=x;exact Heap.lt_size e
 |set S n=>obtain⟨o,_,_,_,e,_⟩:=x;exact Heap.lt_size e
 |ins C dx fs=>obtain⟨_,_,_,e,_⟩:=x;exact Heap.lt_size e
 |own y=>obtain⟨_,e⟩:=x;exact Heap.lt_size e
 |xd fs=>obtain⟨_,⟨_,_,_,e,_⟩,_⟩:=x;exact Heap.lt_size e
 |rng lo hi=>obtain⟨_,_,_,e⟩:=x;exact Heap.lt_size e
 |frz ob u=>obtain⟨e,_⟩:=x;exact Heap.lt_size e
 |tbl ps=>obtain⟨_,e,_⟩:=x;exact Heap.lt_size e
 |met f y=>exact Heap.lt_size (show h.get? a=some _ from x)
 |ext φ=>obtain⟨_,⟨_,e⟩,_⟩:=x;exact Heap.lt_size e
theorem Paired.mapP:∀{l₁:List α}{l₂:List β},Paired F l₁ l₂->(∀a b,F a b->G a b)->Paired G l₁ l₂
 |_,_,.nil,_=>.nil
 |_,_,.cons r t,f=>.cons (f _ _ r) (Paired.mapP t f)
theorem ObjOk.stay (x:ObjOk P w H h a o) (k:∀ b u,(b=a∨H b=some (.own a))->h.get? b=some u->h'.get? b=some u)
  (ho:∀b,H b=some (.own a)->H' b=some (.own a)) (ht:∀b xs,H b=some (.tup xs)->H' b=some (.tup xs)) (hf:∀b o,H b=some (.frz o (.own b))->H' b=some (.frz o (.own b)):=by exact fun _ _ q=>q):ObjOk P w H' h' a o:=by
 induction o with
 |lst xs=>obtain⟨z,its,n,r,e⟩:=x;exact⟨z,its,n,r,k _ _ (.inl rfl) e⟩
 |tup xs=>obtain⟨z,its,r,ob,e,c⟩:=x;exact⟨z,its,r,ob,k _ _ (.inl rfl) e,c⟩
 |dK kvs=>obtain⟨z,y,vs,r,ob,es,ep,e,c⟩:=x;exact⟨z,y,vs,r,ob,es,ep,k _ _ (.inl rfl) e,c⟩
 |dT kvs=>
   obtain⟨z,y,xs,r,ob,es,ep,e,c⟩:=x
   exact⟨z,y,xs,Paired.mapP r fun p q z=>⟨z.1,ht _ _ z.2.1,z.2.2⟩,ob,es,ep,k _ _ (.inl rfl) e,c⟩
 |set S n=>obtain⟨ob,es,ep,t,e,c⟩:=x;exact⟨ob,es,ep,t,k _ _ (.inl rfl) e,c⟩
 |ins C dx fs=>
   obtain⟨d,z,ne,e,mA,⟨od,es,ep,e2,c⟩,r⟩:=x
   exact⟨ho _ d,z,ne,k _ _ (.inl rfl) e,mA,⟨od,es,ep,k _ _ (.inr d) e2,c⟩,r⟩
 |own y=>obtain⟨ob,e⟩:=x;exact⟨ob,k _ _ (.inl rfl) e⟩
 |xd fs=>obtain⟨mA,⟨od,es,ep,e,c⟩,r⟩:=x;exact⟨mA,⟨od,es,ep,k _ _ (.inl rfl) e,c⟩,r⟩
 |rng lo hi=>obtain⟨t,u,v,e⟩:=x;exact⟨t,u,v,k _ _ (.inl rfl) e⟩
 |frz ob u ih=>obtain⟨e,q⟩:=x;exact⟨k _ _ (.inl rfl) e,ih q⟩
 |tbl ps=>
   obtain⟨ps',e,z,r⟩:=x
   exact⟨ps',k a _ (.inl rfl) e,z,fun pos cv q=>let ⟨c,o,fs,q',t,g1,g2,g3⟩:=r pos cv q;⟨c,o,fs,q',t,g1,hf c o g2,g3⟩⟩
 |met f y=>
   have e:h.get? a=some (PySem.W.methodObj (.ref f) (.ref y)):=x
   show h'.get? a=some (PySem.W.methodObj (.ref f) (.ref y))
   exact k a _ (.inl rfl) e
 |ext φ=>obtain⟨p,⟨o,e⟩,st⟩:=x;exact⟨st _ _ p fun o q=>k _ _ (.inl rfl) q,⟨o,k _ _ (.inl rfl) e⟩,st⟩
theorem HOk.lt(x:HOk P w H h)(e:H a=some o):a<h.objs.size:=(x a o e).lt
theorem HOk.fresh(x:HOk P w H h)(e:h.objs.size≤a):H a=none:=by
 cases q:H a with
 |none=>rfl
 |some u=>exact absurd (Nat.lt_of_lt_of_le (x.lt q) e) (Nat.lt_irrefl _)
theorem HOk.kept(x:HOk P w H h)(k:∀b u,h.get? b=some u->h'.get? b=some u):HOk P w H h':=fun a o e=>
 (x a o e).stay (fun b u _ q=>k b u q) (fun _ q=>q) fun _ _ q=>q
theorem HOk.laid(x:HOk P w H h)(k:∀b u,h.get? b=some u->h'.get? b=some u)(hp:h.objs.size≤a)(new:ObjOk P w (upd H a o) h' a o):HOk P w (upd H a o) h':=fun b u e=>by
 have hn:=x.fresh hp
 by_cases hb:b=a
 ·subst hb;rw[upd_same] at e;cases e;exact new
 ·rw[upd_ne hb] at e
  exact (x b u e).stay (fun c v _ q=>k c v q) (fun c q=>by rw[upd_ne (ne_of_none q hn)];exact q) (fun c xs q=>by rw[upd_ne (ne_of_none q hn)];exact q) fun c o q=>by rw[upd_ne (ne_of_none q hn)];exact q
end
def Rd(H:Hp)(a:Addr)(u:HO):Prop:=H a=some u∨∃o,H a=some (.frz o u)
theorem Rd.ok(r:Rd H a u)(x:HOk P w H h):ObjOk P w H h a u:=by
 rcases r with r | ⟨o,r⟩
 ·exact x a u r
 ·obtain⟨_,q⟩:=x a _ r
  exact q
def Mut:Option HO->Prop
 |some (.lst _)=>True
 |some (.dK _)=>True
 |some (.dT _)=>True
 |some (.set _ _)=>True
 |some (.ins _ _ _)=>True
 |some (.ext _)=>True
 |_=>False
section
variable{P:Program}{w:World}{H:Hp}{h h':Heap}{x e:Addr}{o':HO}
theorem HOk.write (ok:HOk P w H h) (mu:Mut (H x)) (he:e=x∨H e=some (.own x)) (k:∀ b u,b≠e->h.get? b=some u->h'.get? b=some u) (heo:∃ u,h'.get? e=some u)
  (new:ObjOk P w (upd H x o') h' x o'):HOk P w (upd H x o') h':=fun b u q=>by
 have nown:∀c y,H c=some (.own y)->c≠x:=fun c y r z=>by subst z;rw[r] at mu;exact mu
 have ntup:∀c xs,H c=some (.tup xs)->c≠x:=fun c xs r z=>by subst z;rw[r] at mu;exact mu
 have nfrz:∀c o u,H c=some (.frz o u)->c≠x:=fun c o u r z=>by subst z;rw[r] at mu;exact mu
 by_cases hb:b=x
 ·subst hb;rw[upd_same] at q;cases q;exact new
 ·rw [upd_ne hb] at q
  by_cases hbe:b=e
  ·have q':H b=some (.own x):=by
    rcases he with z | z
    ·exact absurd (hbe.trans z) hb
    ·rw[hbe];exact z
   rw[q] at q';cases q'
   obtain⟨v,hv⟩:=heo
   exact⟨v,by rw[hbe];exact hv⟩
  ·refine (ok b u q).stay (fun c v hc r=>k c v ?_ r) (fun c r=>by rw[upd_ne (nown c b r)];exact r) (fun c xs r=>by rw[upd_ne (ntup c xs r)];exact r) fun c o r=>by rw[upd_ne (nfrz c o _ r)];exact r
   rcases hc with rfl | hc
   ·exact hbe
   ·rintro rfl
    rcases he with z | z
    ·exact nown c b hc z
    ·rw[hc] at z;cases z;exact hb rfl
end
structure Un(fs ex:List Addr)(H H':Hp)(h h':Heap):Prop where
 keep:∀b o,h.get? b=some o->H b=none->b∉fs->b∉ex->h'.get? b=some o
 slot:∀b o,h.get? b=some o->H b=none->b∈fs->b∉ex->∃sl,h'.get? b=some { o with slots:=sl }
 free:∀b o,h.get? b=some o->H b=none->b∉ex->H' b=none
 there:∀b o,h.get? b=some o->b∉ex->∃o',h'.get? b=some o'
 tups:∀b xs,H b=some (.tup xs)->H' b=some (.tup xs)
 frzs:∀b o u,H b=some (.frz o u)->H' b=some (.frz o u)
 tbls:∀b ps,H b=some (.tbl ps)->∃more,H' b=some (.tbl (ps++more))
section
variable{fs fs' ex ex':List Addr}{H H1 H2:Hp}{h h1 h2 h':Heap}{a x e:Addr}{o:HO}
theorem Un.any(u:Un fs ex H H1 h h1)(q:h.get? b=some ob)(n:H b=none)(hx:b∉ex):∃sl,h1.get? b=some { ob with slots:=sl }:=by
 by_cases hb:b∈fs
 ·exact u.slot b ob q n hb hx
 ·exact⟨ob.slots,u.keep b ob q n hb hx⟩
theorem Un.kept(k:∀b u,h.get? b=some u->h'.get? b=some u):Un fs ex H H h h':=
 ⟨fun b ob q _ _ _=>k b ob q,fun b ob q _ _ _=>⟨ob.slots,k b ob q⟩,fun _ _ _ n _=>n,fun b ob q _=>⟨ob,k b ob q⟩,fun _ _ q=>q,fun _ _ _ q=>q,fun _ ps q=>⟨#[],by rw[q];simp⟩⟩
theorem Un.refl:Un fs ex H H h h:=Un.kept fun _ _ q=>q
theorem Un.laid(k:∀b u,h.get? b=some u->h'.get? b=some u)(hp:h.objs.size≤a)(hn:H a=none):Un fs ex H (upd H a o) h h' where
 keep:=fun b u q _ _ _=>k b u q
 slot:=fun b u q _ _ _=>⟨u.slots,k b u q⟩
 free:=fun b u q n _=>by rw[upd_ne (Nat.ne_of_lt (Nat.lt_of_lt_of_le (Heap.lt_size q) hp))];exact n
 there:=fun b u q _=>⟨u,k b u q⟩
 tups:=fun b xs q=>by rw[upd_ne (ne_of_none q hn)];exact q
 frzs:=fun b u xs q=>by rw[upd_ne (ne_of_none q hn)];exact q
 tbls:=fun b ps q=>⟨#[],by rw[upd_ne (ne_of_none q hn),q];simp⟩
theorem Un.write(mu:Mut (H x))(he:e=x∨H e=some (.own x))(k:∀b u,b≠e->h.get? b=some u->h'.get? b=some u)(heo:∃u,h'.get? e=some u):Un fs ex H (upd H x o) h h':=by
 have hx:∀b,H b=none->b≠x:=fun b n z=>by subst z;rw[n] at mu;exact mu
 have hb:∀b,H b=none->b≠e:=fun b n z=>by
  subst z
  rcases he with r | r
  ·exact hx b n r
  ·rw[n] at r;cases r
 have hm:∀b u,H b=some u->¬ Mut (some u)->b≠x:=fun b u q nm z=>by subst z;rw[q] at mu;exact nm mu
 refine⟨fun b u q n _ _=>k b u (hb b n) q,fun b u q n _ _=>⟨u.slots,k b u (hb b n) q⟩,fun b u q n _=>by rw[upd_ne (hx b n)];exact n,fun b u q _=>?_,
  fun b xs q=>by rw[upd_ne (hm b _ q fun z=>z)];exact q,fun b u xs q=>by rw[upd_ne (hm b _ q fun z=>z)];exact q,fun b ps q=>⟨#[],by rw[upd_ne (hm b _ q fun z=>z),q];simp⟩⟩
 by_cases hbe:b=e
 ·subst hbe;exact heo
 ·exact⟨u,k b u hbe q⟩
end
def trk(h:Heap)(H:Hp):List Addr:=(List.range h.objs.size).filter fun a=>(H a).isSome
def hidT(h:Heap)(H:Hp):Heap:=PySem.W.hideAll h (trk h H)
theorem hidT_size(h:Heap)(H:Hp):(hidT h H).objs.size=h.objs.size:=PySem.W.hideAll_size _ _
theorem hidT_get(e:h.get? b=some o)(n:H b=none):(hidT h H).get? b=some o:=
 PySem.W.hideAll_get _ e fun hm=>by
  have q:(H b).isSome=true:=(List.mem_filter.mp hm).2
  rw[n] at q;simp at q
theorem of_hidT (e:(hidT h H).get? b=some o):h.get? b=some o∧H b=none:=by
 have e':h.get? b=some o:=PySem.W.of_hideAll (trk h H) e
 refine⟨e',?_⟩
 cases q:H b with
 |none=>rfl
 |some x=>
   have hm:b∈trk h H:=List.mem_filter.mpr ⟨List.mem_range.mpr (Heap.lt_size e'),by simp[q]⟩
   have z:(hidT h H).get? b=none:=PySem.W.hideAll_none (trk h H) hm
   rw[z] at e;cases e
def allNews(g h:Heap)(L:Addr):List (Addr×Obj):=(List.range h.objs.size).filterMap fun a=>if a=L∨(g.get? a).isSome=true then none else (h.get? a).map fun o=>(a,o)
def rest(g h:Heap)(L d:Addr):List (Addr×Obj):=(allNews g h L).filter fun p=>decide (p.1≠d)
open PySem PySem.Spec PyProof.Rows
structure Mod(K:PySem.W.Frag)(mg:Str->Option Value)(base:Heap):Prop where
 kin:K.In base
 glob:base.Ns mainGlobals mg
 blt:∃mb,base.Ns builtinsNs mb∧∀x:Str,x≠"__name__"->mb x=bootBuiltins x
 nolimit:base.NoLimit
structure Cx where
 prog:Program
 w:World
 K:PySem.W.Frag
 mg:Str->Option Value
 base:Heap
 A:Around
 N:List Str
 s₀:Shared
 H₀:Hp
 env:Env
 outer:List Env
 stack:List Env
 ex:List Addr
 fn:Str->Bool
 calm:Bool
 pn:List (Addr×Obj)
 xe:Value->Shared->Prop
def frs(l:List Env):List Addr:=l.filterMap (·.frame)
abbrev Cx.fs(X:Cx):List Addr:=frs X.outer
def Vis(sc:Scope)(x:Str):Prop:=sc.names.lookup x=some .local∨sc.names.lookup x=some .cell∨sc.names.lookup x=some .free
def Loc(sc:Scope)(x:Str):Prop:=sc.names.lookup x=some .local∨sc.names.lookup x=some .cell
def Look(env:Env)(h:Heap)(m:Str->Option Value)(x:Str)(u:Value):Prop:=
 (env.kindOf x=some .local∧m x=some u)∨((env.kindOf x=some .cell∨env.kindOf x=some .free)∧∃c,env.cells.lookup x=some c∧h.IsCell c (some u))
structure Cx.Ok(X:Cx):Prop where
 mod:Mod X.K X.mg X.base
 kind:X.env.scope.kind=.function
 glob:X.env.globals=mainGlobals
 blt:X.env.builtins=builtinsNs
 above:X.s₀.heap.objs.size≤X.env.locals
 inj:∀x y c,X.env.cells.lookup x=some c->X.env.cells.lookup y=some c->x=y
 has:∀x,(X.env.kindOf x=some .cell∨X.env.kindOf x=some .free)->∃c,X.env.cells.lookup x=some c
 cab:∀x c,X.fn x=true->X.env.cells.lookup x=some c->X.s₀.heap.objs.size≤c
 hd:X.calm=true->X.A.handled=none
 frames:X.A.frames=some X.stack
 stk:X.stack=X.outer∨(X.stack=X.env::X.outer∧X.env.frame=some X.env.locals)
 exf:∀b∈X.ex,b≠X.env.locals∧∀x c,X.env.cells.lookup x=some c->c≠b
 bs:∀b o,X.base.get? b=some o->X.s₀.heap.get? b=some o∧X.H₀ b=none
 bsz:X.base.objs.size≤X.s₀.heap.objs.size
 noex:∀b o,X.base.get? b=some o->b∉X.ex
 exfs:∀b∈X.ex,b∉X.fs
 funs:X.s₀.heap.FunFrames X.base X.outer
 frf:∀b∈X.fs,X.H₀ b=none
structure Inv(X:Cx)(pins:List (Addr×Obj))(σ:List (Option V))(H:Hp)(s:Shared):Prop where
 ok:X.Ok
 os:s.os=X.s₀.os
 bare:AllBare s.gens
 base:Un X.fs X.ex X.H₀ H X.s₀.heap s.heap
 loc:∃m,s.heap.Ns X.env.locals m∧∀(i:Nat) (x:Str) (v:V),X.N[i]?=some x->σ[i]?=some (some v)->Vis X.env.scope x->∃u,RelV v u∧Look X.env s.heap m x u
 cell:∀x c,X.env.cells.lookup x=some c->∃v,s.heap.IsCell c v
 free:H X.env.locals=none
 freeC:∀x c,X.env.cells.lookup x=some c->H c=none
 pin:∀p∈X.pn++pins,s.heap.get? p.1=some p.2∧H p.1=none∧p.1≠X.env.locals∧p.1∉X.fs∧∀v,p.2.data≠.cell v
 hok:HOk X.prog X.w H s.heap
 len:σ.length=X.N.length
section
variable{X:Cx}{pins:List (Addr×Obj)}{σ:List (Option V)}{H H':Hp}{s:Shared}{h':Heap}
theorem Cx.Ok.nofr(ok:X.Ok)(e:X.base.get? b=some o):b∉X.fs:=fun hb=>by
 have:=(ok.funs.mem hb).1
 rw[e] at this;cases this
theorem Inv.bs(I:Inv X pins σ H s):∀b o,X.base.get? b=some o->s.heap.get? b=some o∧H b=none:=fun b o e=>
 ⟨I.base.keep b o (I.ok.bs b o e).1 (I.ok.bs b o e).2 (I.ok.nofr e) (I.ok.noex b o e),I.base.free b o (I.ok.bs b o e).1 (I.ok.bs b o e).2 (I.ok.noex b o e)⟩
theorem Inv.bk(I:Inv X pins σ H s):∀b o,X.base.get? b=some o->s.heap.get? b=some o:=fun b o e=>(I.bs b o e).1
theorem Inv.mod(I:Inv X pins σ H s):Mod X.K X.mg X.base:=I.ok.mod
theorem Inv.kIn(I:Inv X pins σ H s):X.K.In s.heap:=I.ok.mod.kin.keeps I.bk
theorem Inv.fr(I:Inv X pins σ H s):∃m,Fr X.base X.env.locals s.heap m:=
 let ⟨m,hn,_⟩:=I.loc
 ⟨m,hn,I.bk,Nat.le_trans I.ok.bsz I.ok.above⟩
theorem Inv.lt(I:Inv X pins σ H s):X.env.locals<s.heap.objs.size:=let ⟨_,hn,_⟩:=I.loc;hn.lt
theorem Inv.sz(I:Inv X pins σ H s):X.s₀.heap.objs.size≤s.heap.objs.size:=Nat.le_trans I.ok.above (Nat.le_of_lt I.lt)
theorem Inv.nofs(I:Inv X pins σ H s)(h:s.heap.objs.size≤a):a∉X.fs:=fun hb=>by
 obtain⟨_,o,ho,_⟩:=I.ok.funs.mem hb
 exact absurd (Nat.lt_of_lt_of_le (Heap.lt_size ho) (Nat.le_trans I.sz h)) (Nat.lt_irrefl _)
theorem Inv.cne(I:Inv X pins σ H s):∀x c,X.env.cells.lookup x=some c->c≠X.env.locals:=fun x c e z=>by
 obtain⟨v,o,ho,hd⟩:=I.cell x c e
 obtain⟨m,⟨o',es,ep,ho',hd',_⟩,_⟩:=I.loc
 rw[z,ho'] at ho;cases ho;rw[hd'] at hd;cases hd
theorem Inv.funs (I:Inv X pins σ H s):s.heap.FunFrames X.base X.outer:=by
 have all:∀ (l:List Env),(∀ b∈frs l,b∈X.fs)->X.s₀.heap.FunFrames X.base l->s.heap.FunFrames X.base l:=by
  intro l
  induction l with
  |nil=>intro _ _;trivial
  |cons env r ih=>
    intro hs hl
    obtain⟨hk,⟨L,o,hf,hn,ho,hd⟩,hr⟩:=hl
    have hL:L∈X.fs:=hs L (by unfold frs;rw[List.filterMap_cons,hf];exact List.mem_cons_self)
    obtain⟨sl,e⟩:=I.base.slot L o ho (I.ok.frf L hL) hL fun z=>I.ok.exfs L z hL
    exact⟨hk,⟨L,_,hf,hn,e,hd⟩,ih (fun b hb=>hs b (by unfold frs;rw[List.filterMap_cons,hf];exact List.mem_cons_of_mem _ hb)) hr⟩
 exact all X.outer (fun _ hb=>hb) I.ok.funs
theorem Inv.stack(I:Inv X pins σ H s):s.heap.FunFrames X.base X.stack:=by
 rcases I.ok.stk with e | ⟨e,hf⟩
 ·rw[e];exact I.funs
 ·rw[e]
  obtain⟨m,hn,_⟩:=I.loc
  refine .cons (by rw[I.ok.kind];decide) hf hn ?_ I.funs
  exact Heap.get?_none_of_le (Nat.le_trans I.ok.bsz I.ok.above)
theorem Inv.stkSub(I:Inv X pins σ H s):∀b∈frs X.stack,b∈X.env.locals::X.fs:=fun b hb=>by
 rcases I.ok.stk with e | ⟨e,hf⟩
 ·rw[e] at hb;exact List.mem_cons_of_mem _ hb
 ·rw[e] at hb
  unfold frs at hb
  rw[List.filterMap_cons,hf] at hb
  exact hb
theorem Inv.stkFree(I:Inv X pins σ H s):∀b∈frs X.stack,H b=none:=fun b hb=>by
 rcases List.mem_cons.mp (I.stkSub b hb) with e | hb
 ·rw[e];exact I.free
 ·obtain⟨_,o,ho,_⟩:=I.ok.funs.mem hb
  exact I.base.free b o ho (I.ok.frf b hb) fun z=>I.ok.exfs b z hb
theorem Inv.step {g':Array GenState}{t':Nat}{ch:List Addr} (I:Inv X pins σ H s)
  (hch:∀b∈ch,(b∈X.ex∨X.s₀.heap.objs.size≤b)∧b≠X.env.locals∧(∀x c,X.env.cells.lookup x=some c->c≠b)∧∀p∈X.pn++pins,p.1≠b)
  (keep:∀b o,b≠X.env.locals->b∉X.fs->b∉ch->s.heap.get? b=some o->H b=none->h'.get? b=some o)
  (slot:∀b o,b≠X.env.locals->b∈X.fs->b∉ch->s.heap.get? b=some o->H b=none->∃sl,h'.get? b=some { o with slots:=sl }) (free:∀b o,b∉ch->s.heap.get? b=some o->H b=none->H' b=none)
  (there:∀b o,b∉ch->s.heap.get? b=some o->∃o',h'.get? b=some o')
  (tups:∀b xs,H b=some (.tup xs)->H' b=some (.tup xs)) (frzs:∀b o u,H b=some (.frz o u)->H' b=some (.frz o u)) (tbls:∀b ps,H b=some (.tbl ps)->∃more,H' b=some (.tbl (ps++more)))
  (ns:∀m,s.heap.Ns X.env.locals m->h'.Ns X.env.locals m) (hok:HOk X.prog X.w H' h') (hg:AllBare g') :
  Inv X pins σ H' { s with heap:=h',gens:=g',drawn:=d',toks:=t' }:=by
 have neL:∀b o,X.s₀.heap.get? b=some o->b≠X.env.locals:=fun b o e=>Nat.ne_of_lt (Nat.lt_of_lt_of_le (Heap.lt_size e) I.ok.above)
 have neC:∀b o,X.s₀.heap.get? b=some o->b∉X.ex->b∉ch:=fun b o e hx hb=>by
  rcases (hch b hb).1 with z | z
  ·exact hx z
  ·exact absurd (Nat.lt_of_lt_of_le (Heap.lt_size e) z) (Nat.lt_irrefl _)
 have cellK:∀x c,X.env.cells.lookup x=some c->∀v,s.heap.IsCell c v->h'.IsCell c v:=fun x c e v ⟨o,ho,hd⟩=>by
  have nch:c∉ch:=fun z=>(hch c z).2.2.1 x c e rfl
  by_cases hc:c∈X.fs
  ·obtain⟨sl,q⟩:=slot c o (I.cne x c e) hc nch ho (I.freeC x c e)
   exact⟨_,q,hd⟩
  ·exact⟨o,keep c o (I.cne x c e) hc nch ho (I.freeC x c e),hd⟩
 refine⟨I.ok,I.os,hg,⟨fun b o e n hb hx=>?_,fun b o e n hb hx=>?_,fun b o e n hx=>?_,fun b o e hx=>?_,fun b xs e=>tups b xs (I.base.tups b xs e),fun b o xs e=>frzs b o xs (I.base.frzs b o xs e),fun b ps e=>?_⟩,?_,fun x c e=>?_,?_,fun x c e=>?_,fun p hp=>?_,hok,I.len⟩
 ·exact keep b o (neL b o e) hb (neC b o e hx) (I.base.keep b o e n hb hx) (I.base.free b o e n hx)
 ·obtain⟨sl,e1⟩:=I.base.slot b o e n hb hx
  obtain⟨sl',e2⟩:=slot b _ (neL b o e) hb (neC b o e hx) e1 (I.base.free b o e n hx)
  exact⟨sl',e2⟩
 ·obtain⟨o',e1⟩:=I.base.there b o e hx
  exact free b o' (neC b o e hx) e1 (I.base.free b o e n hx)
 ·obtain⟨o',e1⟩:=I.base.there b o e hx
  exact there b o' (neC b o e hx) e1
 ·obtain⟨m1,e1⟩:=I.base.tbls b ps e
  obtain⟨m2,e2⟩:=tbls b _ e1
  exact⟨m1++m2,by rw[e2,Array.append_assoc]⟩
 ·obtain⟨m,hn,hl⟩:=I.loc
  refine⟨m,ns m hn,fun i x v e1 e2 e3=>?_⟩
  obtain⟨u,r,l⟩:=hl i x v e1 e2 e3
  refine⟨u,r,?_⟩
  rcases l with l | ⟨k,c,e,z⟩
  ·exact .inl l
  ·exact .inr ⟨k,c,e,cellK x c e _ z⟩
 ·obtain⟨v,z⟩:=I.cell x c e
  exact⟨v,cellK x c e v z⟩
 ·obtain⟨m,⟨o,_,_,ho,_⟩,_⟩:=I.loc
  exact free _ o (fun z=>(hch _ z).2.1 rfl) ho I.free
 ·obtain⟨v,o,ho,hd⟩:=I.cell x c e
  exact free c o (fun z=>(hch c z).2.2.1 x c e rfl) ho (I.freeC x c e)
 ·obtain⟨e,n,ne,nf,d⟩:=I.pin p hp
  have nch:p.1∉ch:=fun z=>(hch p.1 z).2.2.2 p hp rfl
  exact⟨keep p.1 p.2 ne nf nch e n,free p.1 p.2 nch e n,ne,nf,d⟩
theorem Inv.un{t':Nat}(I:Inv X pins σ H s)(u:Un X.fs [] H H' s.heap h')(hok:HOk X.prog X.w H' h'):Inv X pins σ H' { s with heap:=h',toks:=t' }:=by
 obtain⟨m,⟨o,es,ep,ho,r⟩,_⟩:=id I.loc
 obtain⟨sl,hL⟩:=u.any ho I.free (by simp)
 exact I.step (g':=s.gens) (d':=s.drawn) (ch:=[]) (fun _ z=>nomatch z) (fun b o _ hb _ e n=>u.keep b o e n hb (by simp)) (fun b o _ hb _ e n=>u.slot b o e n hb (by simp)) (fun b o _ e n=>u.free b o e n (by simp)) (fun b o _ e=>u.there b o e (by simp)) u.tups u.frzs u.tbls (fun m' hm=>by
  obtain⟨o',es',ep',ho',r'⟩:=hm
  rw[ho] at ho';cases ho'
  exact⟨_,es',ep',hL,r'⟩) hok I.bare
theorem Inv.call{g':Array GenState}{t':Nat}{ch:List Addr}(I:Inv X pins σ H s)(u:Un (frs X.stack) ch H H' s.heap h')(hok:HOk X.prog X.w H' h')(hg:AllBare g')
  (hch:∀b∈ch,(b∈X.ex∨X.s₀.heap.objs.size≤b)∧b≠X.env.locals∧(∀x c,X.env.cells.lookup x=some c->c≠b)∧∀p∈X.pn++pins,p.1≠b) :
  Inv X pins σ H' { s with heap:=h',gens:=g',drawn:=d',toks:=t' }:=by
 obtain⟨m,⟨o,es,ep,ho,r⟩,_⟩:=id I.loc
 obtain⟨sl,hL⟩:=u.any ho I.free fun z=>(hch _ z).2.1 rfl
 exact I.step (ch:=ch) hch (fun b o hL hb hc e n=>u.keep b o e n (fun z=>(List.mem_cons.mp (I.stkSub b z)).elim hL hb) hc) (fun b o _ _ hc e n=>u.any e n hc) (fun b o hc e n=>u.free b o e n hc) (fun b o hc e=>u.there b o e hc) u.tups u.frzs u.tbls (fun m' hm=>by
  obtain⟨o',es',ep',ho',r'⟩:=hm
  rw[ho] at ho';cases ho'
  exact⟨_,es',ep',hL,r'⟩) hok hg
theorem Inv.turned{t':Nat}(I:Inv X pins σ H s)(k:∀b o,b≠it->s.heap.get? b=some o->h'.get? b=some o)(hn:H it=none)(hL:it≠X.env.locals)
  (h1:it∈X.ex∨X.s₀.heap.objs.size≤it) (h2:∀x c,X.env.cells.lookup x=some c->c≠it) (h3:∀p∈X.pn++pins,p.1≠it):Inv X pins σ H { s with heap:=h',toks:=t' }:=by
 have nit:∀b u,H b=some u->b≠it:=fun b u e z=>by rw[z,hn] at e;cases e
 refine I.step (g':=s.gens) (d':=s.drawn) (ch:=[it]) (fun b hb=>?_) (fun b o _ _ hc e _=>k b o (fun z=>hc (by simp[z])) e) (fun b o _ _ hc e _=>⟨o.slots,k b o (fun z=>hc (by simp[z])) e⟩) (fun _ _ _ _ n=>n)
  (fun b o hc e=>⟨o,k b o (fun z=>hc (by simp[z])) e⟩) (fun _ _ e=>e) (fun _ _ _ e=>e) (fun b ps e=>⟨#[],by rw[e];simp⟩) (fun m hm=>?_) (fun b u e=>?_) I.bare
 ·have e:b=it:=by simpa using hb
  subst e
  exact⟨h1,hL,h2,h3⟩
 ·obtain⟨o,es,ep,ho,r⟩:=hm
  exact⟨o,es,ep,k _ o (Ne.symm hL) ho,r⟩
 ·refine (I.hok b u e).stay (fun c v hc q=>k c v ?_ q) (fun _ q=>q) fun _ _ q=>q
  rcases hc with z | z
  ·rw[z];exact nit b u e
  ·exact nit c _ z
theorem Inv.tok(I:Inv X pins σ H s)(t:Nat):Inv X pins σ H { s with toks:=t }:=I.un (h':=s.heap) (t':=t) Un.refl I.hok
theorem Inv.kept(I:Inv X pins σ H s)(k:∀b u,s.heap.get? b=some u->h'.get? b=some u):Inv X pins σ H { s with heap:=h',toks:=t' }:=I.un (Un.kept k) (I.hok.kept k)
theorem Inv.laid(I:Inv X pins σ H s)(k:∀b u,s.heap.get? b=some u->h'.get? b=some u)(hp:s.heap.objs.size≤a)(new:ObjOk X.prog X.w (upd H a o) h' a o) :
  Inv X pins σ (upd H a o) { s with heap:=h',toks:=t' }:=I.un (Un.laid k hp (I.hok.fresh hp)) (I.hok.laid k hp new)
theorem Inv.write(I:Inv X pins σ H s)(mu:Mut (H x))(he:e=x∨H e=some (.own x))(k:∀b u,b≠e->s.heap.get? b=some u->h'.get? b=some u)(heo:∃u,h'.get? e=some u)
  (new:ObjOk X.prog X.w (upd H x o) h' x o):Inv X pins σ (upd H x o) { s with heap:=h',toks:=t' }:=I.un (Un.write mu he k heo) (I.hok.write mu he k heo new)
theorem Inv.weak(I:Inv X pins σ H s)(hl:σ'.length=σ.length)(w:∀(i:Nat) v,σ'[i]?=some (some v)->σ[i]?=some (some v)):Inv X pins σ' H s:=
 ⟨I.ok,I.os,I.bare,I.base,let ⟨m,hn,hl'⟩:=I.loc;⟨m,hn,fun i x v e1 e2 e3=>hl' i x v e1 (w i v e2) e3⟩,I.cell,I.free,I.freeC,I.pin,I.hok,hl.trans I.len⟩
theorem Inv.pins_of(I:Inv X pins σ H s)(h:∀p∈pins',s.heap.get? p.1=some p.2∧H p.1=none∧p.1≠X.env.locals∧p.1∉X.fs∧∀v,p.2.data≠.cell v):Inv X pins' σ H s:=
 ⟨I.ok,I.os,I.bare,I.base,I.loc,I.cell,I.free,I.freeC,fun p hp=>(List.mem_append.mp hp).elim (fun z=>I.pin p (List.mem_append_left _ z)) (h p),I.hok,I.len⟩
theorem nodup_ix{N:List Str}(hN:N.Nodup){i j:Nat}(a:N[i]?=some x)(b:N[j]?=some x):i=j:=by
 obtain⟨h1,e1⟩:=List.getElem?_eq_some_iff.mp a
 obtain⟨h2,e2⟩:=List.getElem?_eq_some_iff.mp b
 exact (List.getElem_inj hN).mp (e1.trans e2.symm)
theorem store_ok2 {E:Value->Shared->Prop}{i:Nat}{Q:Unit->Shared->Prop} (I:Inv X pins σ H s) (hN:X.N.Nodup) (hi:X.N[i]?=some x) (hx:Loc X.env.scope x) (r:RelV v u)
  (h:∀s',Inv X pins (σ.set i (some v)) H s'->(∃a,Heap.SameBut a s.heap s'.heap∧(a=X.env.locals∨X.env.cells.lookup x=some a))->Q () s') (hf:X.fn x=true∨X.env.scope.names.lookup x=some .local:=by first | exact .inl rfl | exact .inr rfl | assumption):wpAny M A (storeName X.env x u) Q E s:=by
 obtain⟨m,hn,hl⟩:=id I.loc
 have hcls:(X.env.scope.kind==.class || (X.env.scope.kind==.module&&X.env.locals != X.env.globals))=false:=by rw[I.ok.kind];rfl
 have hiσ:i<σ.length:=by rw[I.len];exact (List.getElem?_eq_some_iff.mp hi).1
 have cne:=I.cne
 have tracked:∀{a:Addr}{h':Heap},(∃o,s.heap.get? a=some o∧H a=none)->Heap.SameBut a s.heap h'->HOk X.prog X.w H h':=fun {a h'} ha hs b ob e=>by
  obtain⟨_,_,hfree⟩:=ha
  refine (I.hok b ob e).stay (fun c w' hc q=>(hs.2 c ?_).trans q) (fun _ q=>q) fun _ _ q=>q
  rintro rfl
  rcases hc with rfl | hc
  ·rw[hfree] at e;cases e
  ·rw[hfree] at hc;cases hc
 rcases hx with hk | hk
 ·refine wpAny_storeName_local hk hn (fun h' hn' hs=>?_) hcls
  obtain⟨oL,_,_,hoL,_⟩:=id hn
  refine h _ ⟨I.ok,I.os,I.bare,⟨fun b o e n hb hx=>?_,fun b o e n hb hx=>?_,I.base.free,fun b o e hx=>?_,I.base.tups,I.base.frzs,I.base.tbls⟩,⟨_,hn',fun j y v' e1 e2 e3=>?_⟩,fun y c e=>?_,I.free,I.freeC,fun p hp=>?_,tracked ⟨oL,hoL,I.free⟩ hs,by simpa using I.len⟩ ⟨_,hs,.inl rfl⟩
  ·exact (hs.2 b (Nat.ne_of_lt (Nat.lt_of_lt_of_le (Heap.lt_size e) I.ok.above))).trans (I.base.keep b o e n hb hx)
  ·obtain⟨sl,e1⟩:=I.base.slot b o e n hb hx
   exact⟨sl,(hs.2 b (Nat.ne_of_lt (Nat.lt_of_lt_of_le (Heap.lt_size e) I.ok.above))).trans e1⟩
  ·obtain⟨o',e1⟩:=I.base.there b o e hx
   exact⟨o',(hs.2 b (Nat.ne_of_lt (Nat.lt_of_lt_of_le (Heap.lt_size e) I.ok.above))).trans e1⟩
  ·by_cases hj:j=i
   ·subst hj
    rw[hi] at e1;cases e1
    rw[List.getElem?_set_self hiσ] at e2
    cases e2
    exact⟨u,r,.inl ⟨hk,by simp⟩⟩
   ·rw[List.getElem?_set_ne (Ne.symm hj)] at e2
    obtain⟨u',r',q⟩:=hl j y v' e1 e2 e3
    refine⟨u',r',?_⟩
    rcases q with ⟨k,e⟩ | ⟨k,c,e,z⟩
    ·refine .inl ⟨k,?_⟩
     have:y≠x:=fun e=>hj (nodup_ix hN e1 (e ▸ hi))
     simp[this,e]
    ·exact .inr ⟨k,c,e,z.sameBut hs (cne y c e)⟩
  ·obtain⟨w',z⟩:=I.cell y c e
   exact⟨w',z.sameBut hs (cne y c e)⟩
  ·obtain⟨e,n,ne,nf,d⟩:=I.pin p hp
   exact⟨(hs.2 p.1 ne).trans e,n,ne,nf,d⟩
 ·have hfn:X.fn x=true:=by
   rcases hf with z | z
   ·exact z
   ·rw[z] at hk;cases hk
  obtain⟨c,hc⟩:=I.ok.has x (.inl hk)
  obtain⟨w',z⟩:=I.cell x c hc
  refine wpAny_storeName_cell I.ok.kind hk hc z (fun h' hc' hs=>?_)
  obtain⟨oc,hoc,hocd⟩:=id z
  refine h { s with heap:=h' } ⟨I.ok,I.os,I.bare,⟨fun b o e n hb hx=>?_,fun b o e n hb hx=>?_,I.base.free,fun b o e hx=>?_,I.base.tups,I.base.frzs,I.base.tbls⟩,⟨m,hn.sameBut hs (Ne.symm (cne x c hc)),fun j y v' e1 e2 e3=>?_⟩,fun y c' e=>?_,I.free,I.freeC,fun p hp=>?_,tracked ⟨oc,hoc,I.freeC x c hc⟩ hs,by simpa using I.len⟩ ⟨c,hs,.inr hc⟩
  ·exact (hs.2 b (Nat.ne_of_lt (Nat.lt_of_lt_of_le (Heap.lt_size e) (I.ok.cab x c hfn hc)))).trans (I.base.keep b o e n hb hx)
  ·obtain⟨sl,e1⟩:=I.base.slot b o e n hb hx
   exact⟨sl,(hs.2 b (Nat.ne_of_lt (Nat.lt_of_lt_of_le (Heap.lt_size e) (I.ok.cab x c hfn hc)))).trans e1⟩
  ·obtain⟨o',e1⟩:=I.base.there b o e hx
   exact⟨o',(hs.2 b (Nat.ne_of_lt (Nat.lt_of_lt_of_le (Heap.lt_size e) (I.ok.cab x c hfn hc)))).trans e1⟩
  ·by_cases hj:j=i
   ·subst hj
    rw[hi] at e1;cases e1
    rw[List.getElem?_set_self hiσ] at e2
    cases e2
    exact⟨u,r,.inr ⟨.inl hk,c,hc,hc'⟩⟩
   ·rw[List.getElem?_set_ne (Ne.symm hj)] at e2
    obtain⟨u',r',q⟩:=hl j y v' e1 e2 e3
    refine⟨u',r',?_⟩
    rcases q with q | ⟨k,c',e,z'⟩
    ·exact .inl q
    ·refine .inr ⟨k,c',e,z'.sameBut hs ?_⟩
     rintro rfl
     exact hj (nodup_ix hN e1 (I.ok.inj _ _ _ e hc ▸ hi))
  ·by_cases hcc:c'=c
   ·subst hcc;exact⟨_,hc'⟩
   ·obtain⟨w2,z2⟩:=I.cell y c' e
    exact⟨w2,z2.sameBut hs hcc⟩
  ·obtain⟨e,n,ne,nf,d⟩:=I.pin p hp
   refine⟨(hs.2 p.1 ?_).trans e,n,ne,nf,d⟩
   intro q
   rw[q,hoc] at e
   have q':oc=p.2:=Option.some.inj e
   exact d w' (by rw[←q'];exact hocd)
theorem store_ok(I:Inv X pins σ H s)(hN:X.N.Nodup)(hi:X.N[i]?=some x)(hx:Loc X.env.scope x)(r:RelV v u)
  (h:∀s',Inv X pins (σ.set i (some v)) H s'->Q () s') (hf:X.fn x=true∨X.env.scope.names.lookup x=some .local:=by first | exact .inl rfl | exact .inr rfl | assumption):wpAny M A (storeName X.env x u) Q E s:=
 store_ok2 I hN hi hx r (fun s' I' _=>h s' I') hf
theorem Inv.call'(I:Inv X pins σ H s)(ho:s'.os=s.os)(u:Un (frs X.stack) ch H H' s.heap s'.heap)(hok:HOk X.prog X.w H' s'.heap)(hg:AllBare s'.gens)
  (hch:∀b∈ch,(b∈X.ex∨X.s₀.heap.objs.size≤b)∧b≠X.env.locals∧(∀x c,X.env.cells.lookup x=some c->c≠b)∧∀p∈X.pn++pins,p.1≠b):Inv X pins σ H' s':=by
 obtain⟨h',g',d',t',o'⟩:=s'
 have e:o'=s.os:=ho
 subst e
 exact I.call (g':=g') (t':=t') (d':=d') u hok hg hch
end
abbrev XK:=Value->Option Addr->Hp->Prop
abbrev St:=List (Option V)
abbrev VK:=V->Hp->Prop
abbrev TE:=St->Hp->VK->Prop
abbrev TT:=St->Hp->(Bool->Hp->Prop)->Prop
abbrev TA:=St->Hp->(List V->Hp->Prop)->Prop
structure Ends where
 nx:St->Hp->Prop
 rt:VK
 bk:St->Hp->Prop:=fun _ _=>False
 ct:St->Hp->Prop:=fun _ _=>False
abbrev TS:=Ends->St->Hp->Prop
def EP(X:Cx)(pins:List (Addr×Obj))(σ:St)(Q:VK)(u:Value)(s':Shared):Prop:=∃v H',Inv X pins σ H' s'∧RelV v u∧Q v H'
def TP(X:Cx)(pins:List (Addr×Obj))(σ:St)(Q:Bool->Hp->Prop)(b:Bool)(s':Shared):Prop:=∃H',Inv X pins σ H' s'∧Q b H'
def AP(X:Cx)(pins:List (Addr×Obj))(σ:St)(Q:List V->Hp->Prop)(us:List Value)(s':Shared):Prop:=∃vs H',Inv X pins σ H' s'∧Vals vs us∧Q vs H'
def SP(X:Cx)(pins:List (Addr×Obj))(D:Ends)(f:Flow)(s':Shared):Prop:=
 match f with
 |.next=>∃σ' H',Inv X pins σ' H' s'∧D.nx σ' H'
 |.brk=>∃σ' H',Inv X pins σ' H' s'∧D.bk σ' H'
 |.cont=>∃σ' H',Inv X pins σ' H' s'∧D.ct σ' H'
 |.ret u=>∃v σ' H',Inv X pins σ' H' s'∧RelV v u∧D.rt v H'
def PE(X:Cx)(e:Expr)(t:TE):Prop:=
 ∀(pins:List (Addr×Obj)) (s:Shared) (σ:St) (H:Hp) (Q:VK),Inv X pins σ H s->t σ H Q->wpAny (model X.prog X.w) X.A (eval e X.env) (EP X pins σ Q) X.xe s
def PT(X:Cx)(e:Expr)(t:TT):Prop:=
 ∀(pins:List (Addr×Obj)) (s:Shared) (σ:St) (H:Hp) (Q:Bool->Hp->Prop),Inv X pins σ H s->t σ H Q->wpAny (model X.prog X.w) X.A (isTrue e X.env (eval e X.env)) (TP X pins σ Q) X.xe s
def PW(X:Cx)(e:Expr)(t:TT):Prop:=
 ∀(whole:Sem Value) (pins:List (Addr×Obj)) (s:Shared) (σ:St) (H:Hp) (Q:Bool->Hp->Prop),Inv X pins σ H s->t σ H Q->wpAny (model X.prog X.w) X.A (isTrue e X.env whole) (TP X pins σ Q) X.xe s
theorem PW.pt(h:PW X e t):PT X e t:=h _
def PA(X:Cx)(es:List Expr)(t:TA):Prop:=
 ∀(pos:Pos) (pins:List (Addr×Obj)) (s:Shared) (σ:St) (H:Hp) (Q:List V->Hp->Prop),Inv X pins σ H s->t σ H Q->wpAny (model X.prog X.w) X.A (spliced (backTo pos (starEach es X.env))) (AP X pins σ Q) X.xe s
def PS(X:Cx)(st:Stmt)(t:TS):Prop:=
 ∀(pins:List (Addr×Obj)) (s:Shared) (σ:St) (H:Hp) (D:Ends),Inv X pins σ H s->t D σ H->wpAny (model X.prog X.w) X.A (exec st X.env) (SP X pins D) X.xe s
def PSs(X:Cx)(st:List Stmt)(t:TS):Prop:=
 ∀(pins:List (Addr×Obj)) (s:Shared) (σ:St) (H:Hp) (D:Ends),Inv X pins σ H s->t D σ H->wpAny (model X.prog X.w) X.A (execs st X.env) (SP X pins D) X.xe s
theorem thn(h:wpAny M A t Q E s)(hQ:∀a s,Q a s->Q' a s):wpAny M A t Q' E s:=wpAny_mono h hQ fun _ _ x=>x
open PySem PySem.Spec PyProof.Rows
section
variable{X:Cx}
theorem bin(ha:PE X a ta)(hb:PE X b tb){pins:List (Addr×Obj)}{R:V->V->Hp->Prop}(I:Inv X pins σ H s)(h:ta σ H fun x H1=>tb σ H1 fun y H2=>R x y H2)
  {α:Type}{Q:α->Shared->Prop}{f:Value->Value->Sem α}
  (hf:∀v u s2 x y H2,Inv X pins σ H2 s2->RelV x v->RelV y u->R x y H2->wpAny (model X.prog X.w) X.A (f v u) Q X.xe s2) :
  wpAny (model X.prog X.w) X.A (eval a X.env) (fun v s₁=>wpAny (model X.prog X.w) X.A (eval b X.env) (fun u s₂=>wpAny (model X.prog X.w) X.A (f v u) Q X.xe s₂) X.xe s₁) X.xe s:=by
 refine thn (ha pins s σ H _ I h) fun v s1 ⟨x,H1,I1,r1,q1⟩=>?_
 refine thn (hb pins s1 σ H1 _ I1 q1) fun u s2 ⟨y,H2,I2,r2,q2⟩=>?_
 exact hf v u s2 x y H2 I2 r1 r2 q2
def tVar(i:Nat):TE:=fun σ H Q=>∃v,σ[i]?=some (some v)∧Q v H
def tC(v:V):TE:=fun _ H Q=>Q v H
theorem pe_var(hN:X.N[i]?=some x)(hv:Vis X.env.scope x)(hd:(x==("__debug__":Str))=false:=by decide)(hcd:(x==("__classdict__":Str))=false:=by decide):PE X (.Name x pos) (tVar i):=by
 intro pins s σ H Q I h
 obtain⟨v,e,h⟩:=h
 obtain⟨m,hn,hl⟩:=I.loc
 obtain⟨u,r,l⟩:=hl i x v hN e hv
 have fin:EP X pins σ Q u s:=⟨v,H,I,r,h⟩
 rcases l with ⟨hk,hm⟩ | ⟨hk,c,hc,hcell⟩
 ·exact wpAny_Name (wpAny_loadName_local I.ok.kind hk hn hm fin) hd
 ·rcases hk with hk | hk
  ·exact wpAny_Name (wpAny_loadName_cell I.ok.kind hk hc hcell fin) hd
  ·exact wpAny_Name (wpAny_loadName_free I.ok.kind hk hc hcell fin hcd) hd
theorem pe_int{i j pos}:PE X (.Constant (.int i) j pos) (tC (.int i)):=fun _ _ _ H _ I h=>wpAny_Constant_int ⟨.int i,H,I.tok _,⟨_,rfl⟩,h⟩
theorem pe_bl{b j pos}:PE X (.Constant (.bool b) j pos) (tC (.bl b)):=fun _ _ _ H _ I h=>Constant_bool ⟨.bl b,H,I,rfl,h⟩
theorem pe_non{j pos}:PE X (.Constant .none j pos) (tC .non):=fun _ _ _ H _ I h=>Constant_none ⟨.non,H,I,rfl,h⟩
theorem pe_str{x j pos}:PE X (.Constant (.str x) j pos) (tC (.str x)):=fun _ _ _ H _ I h=>Calls.Constant_str ⟨.str x,H,I.tok _,⟨_,rfl⟩,h⟩
def Gl(X:Cx)(x:Str):Prop:=X.env.kindOf x=some .globalImplicit
theorem ld_glob(I:Inv X pins σ H s)(hg:Gl X x)(hm:X.mg x=some u)(h:Q u s)
  (hd:(x==("__debug__":Str))=false:=by decide):wpAny (model X.prog X.w) X.A (eval (.Name x pos) X.env) Q E s:=
 Calls.Name_function_global I.ok.kind hg (Calls.loadGlobal_global (by rw[I.ok.glob];exact I.mod.glob.keeps I.bk) hm h) hd
theorem ld_blt(I:Inv X pins σ H s)(hg:Gl X x)(hm:X.mg x=none)(hv:bootBuiltins x=some u)(h:Q u s)
  (hn:x≠"__name__":=by decide) (hd:(x==("__debug__":Str))=false:=by decide):wpAny (model X.prog X.w) X.A (eval (.Name x pos) X.env) Q E s:=by
 obtain⟨mb,h1,h2⟩:=I.mod.blt
 exact Calls.Name_function_global I.ok.kind hg (Calls.loadGlobal_builtin (by rw[I.ok.glob];exact I.mod.glob.keeps I.bk) hm (by rw[I.ok.blt];exact h1.keeps I.bk) ((h2 x hn).trans hv) h) hd
theorem pe_glob(hg:Gl X x)(hm:X.mg x=some u)(r:RelV v u)(hd:(x==("__debug__":Str))=false:=by decide):PE X (.Name x pos) (tC v):=
 fun _ _ _ H _ I h=>ld_glob I hg hm ⟨v,H,I,r,h⟩ hd
theorem pe_bltn(hg:Gl X x)(hm:X.mg x=none)(hv:bootBuiltins x=some u)(r:RelV v u)(hn:x≠"__name__":=by decide)(hd:(x==("__debug__":Str))=false:=by decide):PE X (.Name x pos) (tC v):=
 fun _ _ _ H _ I h=>ld_blt I hg hm hv ⟨v,H,I,r,h⟩ hn hd
variable{a b:Expr}{ta tb:TE}{pos:Pos}
variable{tA tB':TT}{rest:List Expr}
def tAnd(t u:TT):TT:=fun σ H Q=>t σ H fun c H1=>if c=true then u σ H1 Q else Q false H1
def tOr(t u:TT):TT:=fun σ H Q=>t σ H fun c H1=>if c=true then Q true H1 else u σ H1 Q
def tNot(t:TT):TT:=fun σ H Q=>t σ H fun c H1=>Q (!c) H1
theorem pw_and1(ha:PT X a tA):PW X (.BoolOp .And [a] pos) tA:=by
 intro wh pins s σ H Q I h
 refine isTrue_and (thn (ha pins s σ H Q I h) fun c s1 e=>?_)
 cases c with
 |true=>exact isTrue_and_nil e
 |false=>exact e
theorem pw_or1(ha:PT X a tA):PW X (.BoolOp .Or [a] pos) tA:=by
 intro wh pins s σ H Q I h
 refine isTrue_or (thn (ha pins s σ H Q I h) fun c s1 e=>?_)
 cases c with
 |false=>exact isTrue_or_nil e
 |true=>exact e
theorem pw_and(ha:PT X a tA)(hb:PW X (.BoolOp .And (b::rest) pos) tB'):PW X (.BoolOp .And (a::b::rest) pos) (tAnd tA tB'):=by
 intro wh pins s σ H Q I h
 refine isTrue_and (thn (ha pins s σ H _ I h) fun c s1 ⟨H1,I1,q1⟩=>?_)
 cases c with
 |true=>exact hb wh pins s1 σ H1 Q I1 q1
 |false=>exact⟨H1,I1,q1⟩
theorem pw_or(ha:PT X a tA)(hb:PW X (.BoolOp .Or (b::rest) pos) tB'):PW X (.BoolOp .Or (a::b::rest) pos) (tOr tA tB'):=by
 intro wh pins s σ H Q I h
 refine isTrue_or (thn (ha pins s σ H _ I h) fun c s1 ⟨H1,I1,q1⟩=>?_)
 cases c with
 |true=>exact⟨H1,I1,q1⟩
 |false=>exact hb wh pins s1 σ H1 Q I1 q1
theorem pt_not(ha:PT X a tA):PT X (.UnaryOp .Not a pos) (tNot tA):=by
 intro pins s σ H Q I h
 exact isTrue_not (ha pins s σ H (fun c H1=>Q (!c) H1) I h)
def tAndV(ta tb:TE):TE:=fun σ H Q=>ta σ H fun x H1=>∃c,x=.bl c∧if c=true then tb σ H1 Q else Q (.bl false) H1
def tNotV(ta:TE):TE:=fun σ H Q=>ta σ H fun x H1=>∃c,x=.bl c∧Q (.bl (!c)) H1
theorem pe_one{op}(h:PE X a t):PE X (.BoolOp op [a] pos) t:=fun pins s σ H Q I hw=>BoolOp_one (h pins s σ H Q I hw)
theorem pe_and(ha:PE X a ta)(hb:PE X (.BoolOp .And (b::rest) pos) tb):PE X (.BoolOp .And (a::b::rest) pos) (tAndV ta tb):=by
 intro pins s σ H Q I h
 refine BoolOp_and (thn (ha pins s σ H _ I h) fun v s1 ⟨x,H1,I1,r1,q1⟩=>?_)
 obtain⟨c,rfl,q1⟩:=q1
 cases r1
 refine wpAny_truthy_bool ?_
 cases c with
 |true=>exact hb pins s1 σ H1 Q I1 q1
 |false=>exact⟨.bl false,H1,I1,rfl,q1⟩
theorem pe_not(ha:PE X a ta):PE X (.UnaryOp .Not a pos) (tNotV ta):=by
 intro pins s σ H Q I h
 refine UnaryOp_ (thn (ha pins s σ H _ I h) fun v s1 ⟨x,H1,I1,r1,q1⟩=>?_)
 obtain⟨c,rfl,q1⟩:=q1
 cases r1
 exact not_of (wpAny_truthy_bool ⟨.bl (!c),H1,I1,rfl,q1⟩)
def tIf(t:TT)(ta tb:TE):TE:=fun σ H Q=>t σ H fun c H1=>if c=true then ta σ H1 Q else tb σ H1 Q
theorem pe_ifExp(hc:PT X c tA)(ha:PE X a ta)(hb:PE X b tb):PE X (.IfExp c a b pos) (tIf tA ta tb):=by
 intro pins s σ H Q I h
 refine wpAny_IfExp (thn (hc pins s σ H _ I h) fun d s1 ⟨H1,I1,q1⟩=>?_)
 cases d with
 |true=>exact ha pins s1 σ H1 Q I1 q1
 |false=>exact hb pins s1 σ H1 Q I1 q1
end
open PySem PySem.Spec PyProof.Rows
def SqL(K:PySem.W.Frag)(H:Hp)(a:Addr)(xs:List V):Prop:=
 Rd H a (.lst xs) ∨
  ∃(o:Obj) (its:Array Value) (n:Nat),K.lookup a=some o∧o.cls=.type "list"∧o.dict=none∧o.data=.seq its n∧its.size≤sizeLine∧Vals xs its.toList
def SqT(K:PySem.W.Frag)(H:Hp)(a:Addr)(xs:List V):Prop:=
 Rd H a (.tup xs) ∨
  ∃(o:Obj) (its:Array Value) (n:Nat),K.lookup a=some o∧o.cls=.type "tuple"∧o.data=.seq its n∧its.size≤sizeLine∧Vals xs its.toList
def absV:Value->Option V
 |.none=>some .non
 |.bool b=>some (.bl b)
 |.int i _=>some (.int i)
 |.str x _=>some (.str x)
 |.bytes b _=>some (.byt b)
 |.float b _=>some (.flt b)
 |.ref a=>some (.ref a)
 |.type n=>some (.ty n)
 |_=>none
theorem RelV.abs(r:RelV x u):absV u=some x:=by
 cases x with
 |non=>cases r;rfl
 |bl _=>cases r;rfl
 |int _=>obtain⟨t,rfl⟩:=r;rfl
 |str _=>obtain⟨t,rfl⟩:=r;rfl
 |byt _=>obtain⟨t,rfl⟩:=r;rfl
 |flt _=>obtain⟨t,rfl⟩:=r;rfl
 |ref _=>cases r;rfl
 |ty _=>cases r;rfl
theorem RelV.inj(r:RelV x u)(q:RelV y u):x=y:=Option.some.inj (r.abs.symm.trans q.abs)
theorem Vals.inj:∀{xs ys:List V}{us:List Value},Vals xs us->Vals ys us->xs=ys
 |_,_,_,.nil,.nil=>rfl
 |_,_,_,.cons r t,.cons r' t'=>by rw[r.inj r',Vals.inj t t']
section
variable{X:Cx}{pins:List (Addr×Obj)}{σ:St}{H:Hp}{s:Shared}{a:Addr}{xs ys:List V}
theorem SqL.of{K:PySem.W.Frag}(h:H a=some (.lst xs)):SqL K H a xs:=.inl (.inl h)
theorem SqT.of{K:PySem.W.Frag}(h:H a=some (.tup xs)):SqT K H a xs:=.inl (.inl h)
theorem Inv.list(I:Inv X pins σ H s)(h:SqL X.K H a xs):∃its:List Value,Vals xs its∧PlainL s.heap a its.toArray∧xs.length≤sizeLine:=by
 rcases h with h | ⟨o,its,n,hk,hc,hd,hs,hz,r⟩
 ·obtain⟨z,its,n,r,e⟩:=h.ok I.hok
  exact⟨its,r,⟨_,n,e,rfl,rfl,rfl⟩,z⟩
 ·refine⟨its.toList,r,⟨o,n,I.kIn a o hk,hc,hd,by simpa using hs⟩,?_⟩
  have e:=r.length
  simp only[Array.length_toList] at e
  omega
theorem Inv.tuple(I:Inv X pins σ H s)(h:SqT X.K H a xs):∃its:List Value,Vals xs its∧IsTup s.heap a its.toArray∧xs.length≤sizeLine:=by
 rcases h with h | ⟨o,its,n,hk,hc,hs,hz,r⟩
 ·obtain⟨z,its,r,p⟩:=h.ok I.hok
  exact⟨its,r,p,z⟩
 ·refine⟨its.toList,r,⟨o,I.kIn a o hk,hc,n,by simpa using hs⟩,?_⟩
  have e:=r.length
  simp only[Array.length_toList] at e
  omega
theorem Inv.list_inj(I:Inv X pins σ H s)(h:SqL X.K H a xs)(h':SqL X.K H a ys):xs=ys:=by
 obtain⟨its,r,⟨o,n,e,_,_,d⟩,_⟩:=I.list h
 obtain⟨its',r',⟨o',n',e',_,_,d'⟩,_⟩:=I.list h'
 rw[e] at e';cases e'
 rw[d] at d'
 injection d' with d1 _
 have:its=its':=by simpa using congrArg Array.toList d1
 subst this
 exact r.inj r'
theorem Inv.tuple_inj(I:Inv X pins σ H s)(h:SqT X.K H a xs)(h':SqT X.K H a ys):xs=ys:=by
 obtain⟨its,r,⟨o,e,_,n,d⟩,_⟩:=I.tuple h
 obtain⟨its',r',⟨o',e',_,n',d'⟩,_⟩:=I.tuple h'
 rw[e] at e';cases e'
 rw[d] at d'
 injection d' with d1 _
 have:its=its':=by simpa using congrArg Array.toList d1
 subst this
 exact r.inj r'
end
section
variable{X:Cx}{st:Stmt}{rest:List Stmt}{t u:TS}{e:Expr}{te:TE}{pos:Pos}
def tNext:TS:=fun D σ H=>D.nx σ H
def tSeq(t u:TS):TS:=fun D σ H=>t { D with nx:=u D } σ H
theorem pss_nil:PSs X [] tNext:=fun _ _ σ H _ I h=>wpAny_execs_nil ⟨σ,H,I,h⟩
theorem pss_cons (h1:PS X st t) (h2:PSs X rest u):PSs X (st::rest) (tSeq t u):=by
 intro pins s σ H D I h
 refine wpAny_execs_cons (thn (h1 pins s σ H { D with nx:=u D } I h) fun f s1 q=>?_)
 cases f with
 |next=>
   obtain⟨σ',H',I',q⟩:=q
   exact h2 pins s1 σ' H' D I' q
 |ret v=>exact q
 |brk=>exact q
 |cont=>exact q
theorem pss_one(h1:PS X st t):PSs X [st] t:=by
 intro pins s σ H D I h
 refine wpAny_execs_cons (thn (h1 pins s σ H D I h) fun f s1 q=>?_)
 cases f with
 |next=>exact wpAny_execs_nil q
 |ret v=>exact q
 |brk=>exact q
 |cont=>exact q
theorem Inv.quiet(I:Inv X pins σ H s):interactive X.env=false:=by simp[interactive,I.ok.kind]
def tDrop(te:TE):TS:=fun D σ H=>te σ H fun _ H1=>D.nx σ H1
theorem ps_expr(he:PE X e te)(hs:swapsWith e none pos.line X.env=pure false:=by rfl):PS X (.Expr e pos) (tDrop te):=by
 intro pins s σ H D I h
 exact wpAny_Expr_any (thn (he pins s σ H _ I h) fun v s1 ⟨x,H1,I1,r1,q1⟩=>⟨σ,H1,I1,q1⟩) I.quiet hs
def tRet(te:TE):TS:=fun D σ H=>te σ H D.rt
theorem ps_ret(he:PE X e te):PS X (.Return (some e) pos) (tRet te):=by
 intro pins s σ H D I h
 exact wpAny_Return_some (thn (he pins s σ H _ I h) fun v s1 ⟨x,H1,I1,r1,q1⟩=>⟨x,σ,H1,I1,r1,q1⟩)
def tIfS(c:TT)(t u:TS):TS:=fun D σ H=>c σ H fun b H1=>if b=true then t D σ H1 else u D σ H1
theorem ps_if(hc:PT X c tc)(ha:PSs X a t)(hb:PSs X b u):PS X (.If c a b pos) (tIfS tc t u):=by
 intro pins s σ H D I h
 refine wpAny_If (thn (hc pins s σ H _ I h) fun d s1 ⟨H1,I1,q1⟩=>?_)
 cases d with
 |true=>exact ha pins s1 σ H1 D I1 q1
 |false=>exact hb pins s1 σ H1 D I1 q1
end
abbrev TG:=V->St->Hp->(St->Hp->Prop)->Prop
abbrev TGs:=List V->St->Hp->(St->Hp->Prop)->Prop
def PG (X:Cx) (target:Expr) (t:TG):Prop:=
 ∀(pins:List (Addr×Obj)) (s:Shared) (σ:St) (H:Hp) (v:V) (u:Value) (Q:St->Hp->Prop),Inv X pins σ H s->RelV v u->t v σ H Q->
   wpAny (model X.prog X.w) X.A (assign target X.env u) (fun _ s'=>∃σ' H',Inv X pins σ' H' s'∧Q σ' H') X.xe s
def PGs (X:Cx) (ts:List Expr) (t:TGs):Prop:=
 ∀(pins:List (Addr×Obj)) (s:Shared) (σ:St) (H:Hp) (vs:List V) (us:List Value) (Q:St->Hp->Prop),Inv X pins σ H s->Vals vs us->t vs σ H Q->
   wpAny (model X.prog X.w) X.A (assignInOrder ((assignEach ts X.env).map (·.2)) us) (fun _ s'=>∃σ' H',Inv X pins σ' H' s'∧Q σ' H') X.xe s
abbrev TSet:=V->V->V->Hp->(Hp->Prop)->Prop
def PSet (X:Cx) (t:TSet):Prop:=
 ∀(pins:List (Addr×Obj)) (s:Shared) (σ:St) (H:Hp) (o i v:V) (ov iv u:Value) (Q:Hp->Prop),Inv X pins σ H s->RelV o ov->RelV i iv->RelV v u->t o i v H Q->
   wpAny (model X.prog X.w) X.A (setItem ov iv u) (fun _ s'=>∃H',Inv X pins σ H' s'∧Q H') X.xe s
abbrev TIp:=V->V->Hp->VK->Prop
def PIp (X:Cx) (op:Operator) (t:TIp):Prop:=
 ∀(pins:List (Addr×Obj)) (s:Shared) (σ:St) (H:Hp) (x y:V) (v u:Value) (Q:VK),Inv X pins σ H s->RelV x v->RelV y u->t x y H Q->
   wpAny (model X.prog X.w) X.A (inplaceOp op v u) (EP X pins σ Q) X.xe s
section
variable{X:Cx}{pos:Pos}
def gName(i:Nat):TG:=fun v σ H Q=>Q (σ.set i (some v)) H
theorem pg_name(hN:X.N.Nodup)(hi:X.N[i]?=some x)(hx:Loc X.env.scope x)(hf:X.fn x=true∨X.env.scope.names.lookup x=some .local:=by first | exact .inl rfl | exact .inr rfl | assumption):PG X (.Name x pos) (gName i):=by
 intro pins s σ H v u Q I r h
 exact wpAny_assign_Name (store_ok I hN hi hx r (fun s' I'=>⟨_,H,I',h⟩) hf)
def gNil:TGs:=fun vs σ H Q=>vs=[]∧Q σ H
def gCons(t:TG)(u:TGs):TGs:=fun vs σ H Q=>∃v r,vs=v::r∧t v σ H fun σ' H'=>u r σ' H' Q
theorem pgs_nil:PGs X [] gNil:=by
 intro pins s σ H vs us Q I r h
 obtain⟨e,h⟩:=h
 subst e
 cases r
 exact assignInOrder_nil ⟨σ,H,I,h⟩
theorem pgs_cons (h1:PG X e t) (h2:PGs X es u)
  (hs:(assignEach (e::es) X.env).map (·.2)=assign e X.env::(assignEach es X.env).map (·.2):=by rfl):PGs X (e::es) (gCons t u):=by
 intro pins s σ H vs us Q I r h
 obtain⟨v,vr,e1,h⟩:=h
 subst e1
 cases r with
 |cons r rr=>
   rw[hs]
   refine assignInOrder_cons (thn (h1 pins s σ H _ _ _ I r h) fun _ s1 ⟨σ1,H1,I1,q1⟩=>?_)
   exact h2 pins s1 σ1 H1 _ _ Q I1 rr q1
def gTup(K:PySem.W.Frag)(n:Nat)(t:TGs):TG:=fun v σ H Q=>∃a xs,v=.ref a∧SqT K H a xs∧xs.length=n∧t xs σ H Q
theorem pg_tup(hc:X.calm=true)(h:PGs X es t)
  (hn:(assignEach es X.env).length=n:=by rfl) (hst:(assignEach es X.env).findIdx? (·.1)=none:=by rfl):PG X (.Tuple es k pos) (gTup X.K n t):=by
 intro pins s σ H v u Q I r hw
 obtain⟨a,xs,e1,hq,hl,hw⟩:=hw
 subst e1
 cases r
 obtain⟨its,rv,ht,hz⟩:=I.tuple hq
 refine assign_Tuple_tuple (I.ok.hd hc) ht (by simp[hn,←hl,rv.length]) hst fun h' hx=>?_
 have I1:Inv X pins σ H { s with heap:=h' }:=I.kept (t':=s.toks) fun b o e=>hx b o (Nat.ne_of_lt (Heap.lt_size e)) e
 exact h pins _ σ H xs _ Q I1 (by simpa using rv) hw
def gSub(to ti:TE)(t:TSet):TG:=fun v σ H Q=>to σ H fun o H1=>ti σ H1 fun i H2=>t o i v H2 fun H3=>Q σ H3
theorem pg_sub (ho:PE X o to) (hi:PE X i ti) (hs:PSet X t)
  (ha:∀v,assign (.Subscript o i pos) X.env v=(do
    let ov ←holding [v] (eval o X.env)
    let iv ←holding [v,ov] (eval i X.env)
    standAt pos
    holding [v,ov,iv] (setItem ov iv v)
    release [v,ov,iv] []):=by intro _;rfl):PG X (.Subscript o i pos) (gSub to ti t):=by
 intro pins s σ H v u Q I r h
 rw[ha]
 refine wpAny_bind (wpAny_holding (thn (ho pins s σ H _ I h) fun ov s1 ⟨x,H1,I1,r1,q1⟩=>?_))
 refine wpAny_bind (wpAny_holding (thn (hi pins s1 σ H1 _ I1 q1) fun iv s2 ⟨y,H2,I2,r2,q2⟩=>?_))
 refine wpAny_bind (wpAny_standAt (wpAny_bind (wpAny_holding (thn (hs pins s2 σ H2 x y v ov iv u _ I2 r1 r2 r q2) fun _ s3 ⟨H3,I3,q3⟩=>?_))))
 exact wpAny_release ⟨σ,H3,I3,q3⟩
def tAsg(te:TE)(g:TG):TS:=fun D σ H=>te σ H fun x H1=>g x σ H1 D.nx
theorem ps_asg(he:PE X e te)(hg:PG X tg g)(hs:swapsWithSole [tg] e pos.line X.env=pure false:=by rfl)(hw:swappedStores [tg] e X.env=pure none:=by rfl)
  (h1:(assignEach [tg] X.env).map (·.2)=[assign tg X.env]:=by rfl):PS X (.Assign [tg] e pos) (tAsg te g):=by
 intro pins s σ H D I h
 refine wpAny_Assign_stores (thn (he pins s σ H _ I h) fun v s1 ⟨x,H1,I1,r1,q1⟩=>?_) hs hw
 rw[h1]
 exact thn (hg pins s1 σ H1 x v _ I1 r1 q1) fun _ s2 q=>q
theorem ps_set(hN:X.N.Nodup)(hi:X.N[i]?=some x)(hx:Loc X.env.scope x)(he:PE X e te)(hs:swapsWith e (some (.Name x pos')) pos.line X.env=pure false:=by rfl)(hf:X.fn x=true∨X.env.scope.names.lookup x=some .local:=by first | exact .inl rfl | exact .inr rfl | assumption) :
  PS X (.Assign [.Name x pos'] e pos) (tAsg te (gName i)):=by
 intro pins s σ H D I h
 refine wpAny_Assign_Name (thn (he pins s σ H _ I h) fun v s1 ⟨y,H1,I1,r1,q1⟩=>?_) hs
 exact store_ok I1 hN hi hx r1 (fun s2 I2=>⟨_,H1,I2,q1⟩) hf
def tPar(i j:Nat)(ta:TA):TS:=fun D σ H=>ta σ H fun vs H1=>∃v w,vs=[v,w]∧D.nx ((σ.set i (some v)).set j (some w)) H1
theorem ps_par {kt k2 pt2} (hc:X.calm=true) (hN:X.N.Nodup) (hi:X.N[i]?=some x) (hj:X.N[j]?=some y) (hij:i≠j)
  (hx:X.env.scope.names.lookup x=some .local) (hy:X.env.scope.names.lookup y=some .local) (ha:PA X [a,b] ta)
  (hw:swappedStores [.Tuple [.Name x px,.Name y py] kt pt] (.Tuple [a,b] k2 pt2) X.env=pure (some [x,y]))
  (hs:swapsWithSole [.Tuple [.Name x px,.Name y py] kt pt] (.Tuple [a,b] k2 pt2) pos.line X.env=pure false:=by rfl) :
  PS X (.Assign [.Tuple [.Name x px,.Name y py] kt pt] (.Tuple [a,b] k2 pt2) pos) (tPar i j ta):=by
 intro pins s σ H D I h
 rw[exec_Assign_arm]
 refine wpAny_bind (wpAny_standAt ?_)
 rw[hs]
 refine wpAny_bind (wpAny_pure ?_)
 rw[if_neg (by decide)]
 refine wpAny_bind (Tuple_ (thn (ha _ pins s σ H _ I h) fun us s1 ⟨vs,H1,I1,r1,q1⟩=>?_))
 obtain⟨v,w,e1,q1⟩:=q1
 subst e1
 obtain ⟨u1,u2,rfl,rv,rw'⟩:∃ u1 u2,us=[u1,u2]∧RelV v u1∧RelV w u2:=by
  cases r1 with
  | cons p q=>
    cases q with
    |cons p' q'=>
      cases q'
      exact⟨_,_,rfl,p,p'⟩
 refine wpAny_newObj_type ?_ (by show 2≤sizeLine;decide)
 have I2:Inv X pins σ H1 { s1 with heap:=s1.heap.push { cls:=.type "tuple",data:=.seq [u1,u2].toArray } }:=I1.kept (t':=s1.toks) fun b o e=>Heap.get?_push_of_some _ e
 rw[hw]
 refine wpAny_bind (wpAny_pure ?_)
 show wpAny (model X.prog X.w) X.A (do rule "assign.swapped-stores";let items ←unpackItems (.ref s1.heap.objs.size) 2 none;assignInOrder [fun v=>bindName X.env y v,fun v=>bindName X.env x v] items.reverse;pure Flow.next) _ _ _
 refine wpAny_bind (wpAny_rule (wpAny_bind (unpackItems_tuple (items:=#[u1,u2]) (I.ok.hd hc) (IsTup.new s1.heap _) fun h' hx'=>?_)))
 have I3:=I2.kept (h':=h') (t':=s1.toks) fun b o e=>hx' b o (Nat.ne_of_lt (Heap.lt_size e)) e
 show wpAny _ _ (assignInOrder [fun v=>bindName X.env y v,fun v=>bindName X.env x v] [u2,u1]>>=fun _=>pure Flow.next) _ _ _
 refine wpAny_bind (assignInOrder_cons (wpAny_bindName (store_ok I3 hN hj (.inl hy) rw' (fun s2 I4=>?_) (.inr hy))))
 refine assignInOrder_cons (wpAny_bindName (store_ok I4 hN hi (.inl hx) rv (fun s3 I5=>assignInOrder_nil (wpAny_pure ?_)) (.inr hx)))
 rw[List.set_comm _ _ (Ne.symm hij)] at I5
 exact⟨_,H1,I5,q1⟩
def tAugS(to ti te:TE)(tget:V->V->Hp->VK->Prop)(tip:TIp)(tset:TSet):TS:=fun D σ H=>to σ H fun o H1=>ti σ H1 fun i H2=>tget o i H2 fun x H3=>te σ H3 fun y H4=>tip x y H4 fun z H5=>tset o i z H5 fun H6=>D.nx σ H6
def PGet (X:Cx) (t:V->V->Hp->VK->Prop):Prop:=
 ∀(pins:List (Addr×Obj)) (s:Shared) (σ:St) (H:Hp) (o i:V) (ov iv:Value) (Q:VK),Inv X pins σ H s->RelV o ov->RelV i iv->t o i H Q->
   wpAny (model X.prog X.w) X.A (getItem ov iv) (EP X pins σ Q) X.xe s
theorem ps_augS(ho:PE X o to)(hi:PE X i ti)(hg:PGet X tget)(he:PE X e te)(hp:PIp X op tip)(hs:PSet X tset)
  (ha:∀ov iv new,augStore i ov iv new=(do holding [new,ov,iv] (setItem ov iv new);release [new,ov,iv] [];pure .next):=by intros;rfl):PS X (.AugAssign (.Subscript o i tpos) op e pos) (tAugS to ti te tget tip tset):=by
 intro pins s σ H D I h
 refine wpAny_AugAssign_SubscriptAny (thn (ho pins s σ H _ I h) fun ov s1 ⟨x1,H1,I1,r1,q1⟩=>?_) ha
 refine thn (hi pins s1 σ H1 _ I1 q1) fun iv s2 ⟨x2,H2,I2,r2,q2⟩=>?_
 refine thn (hg pins s2 σ H2 x1 x2 ov iv _ I2 r1 r2 q2) fun old s3 ⟨x3,H3,I3,r3,q3⟩=>?_
 refine thn (he pins s3 σ H3 _ I3 q3) fun v s4 ⟨x4,H4,I4,r4,q4⟩=>?_
 refine thn (hp pins s4 σ H4 x3 x4 old v _ I4 r3 r4 q4) fun new s5 ⟨x5,H5,I5,r5,q5⟩=>?_
 exact thn (hs pins s5 σ H5 x1 x2 x5 ov iv new _ I5 r1 r2 r5 q5) fun _ s6 ⟨H6,I6,q6⟩=>⟨σ,H6,I6,q6⟩
end
structure It where
 go:Nat->Hp->Prop
 yld:Nat->Hp->V->Hp->Prop
 stop:Nat->Hp->Prop
def FpOk(X:Cx)(pins:List (Addr×Obj))(H:Hp)(b:Addr):Prop:=
 H b=none∧b≠X.env.locals∧b∉X.fs∧(b∈X.ex∨X.s₀.heap.objs.size≤b)∧(∀x c,X.env.cells.lookup x=some c->c≠b)∧∀p∈X.pn++pins,p.1≠b
theorem Inv.fpOk(I:Inv X pins σ H s)(hb:s.heap.objs.size≤b)(hn:H' b=none):FpOk X pins H' b:=by
 refine⟨hn,Nat.ne_of_gt (Nat.lt_of_lt_of_le I.lt hb),I.nofs hb,.inr (Nat.le_trans I.sz hb),fun x c e z=>?_,fun p hp z=>?_⟩
 ·obtain⟨v,q⟩:=I.cell x c e
  exact absurd (Nat.lt_of_lt_of_le q.lt (by rw[z];exact hb)) (Nat.lt_irrefl _)
 ·exact absurd (Nat.lt_of_lt_of_le (Heap.lt_size (I.pin p hp).1) (by rw[z];exact hb)) (Nat.lt_irrefl _)
structure Turn (P:Program) (w:World) (K:PySem.W.Frag) (tg:Expr) (J:It) (fp:List Addr) (it:Addr) (tn:Nat->Heap->Prop):Prop where
 mem:it∈fp
 obj:∀i h,tn i h->∀b∈fp,∃o,h.get? b=some o∧∀v,o.data≠.cell v
 keep:∀i h h',tn i h->(∀b∈fp,∀o,h.get? b=some o->h'.get? b=some o)->tn i h'
 item:∀(X:Cx),X.prog=P->X.w=w->X.K=K->X.calm=true->∀(i:Nat) (pins:List (Addr×Obj)) (s:Shared) (σ:St) (H:Hp) (E:Value->Shared->Prop),Inv X pins σ H s->(∀b∈fp,FpOk X pins H b)->tn i s.heap->J.go i H->
  wpAny (model P w) X.A (pyNext (.ref it)) (fun r s1=>∃u,r=some u ∧
   wpAny (model P w) X.A (letOwnedTupleGo tg (.ref it) u) (fun _ s2=>∃x H',Inv X pins σ H' s2∧RelV x u∧J.yld i H x H'∧tn (i+1) s2.heap∧∀b∈fp,H' b=none) E s1) E s
 done:∀(X:Cx),X.prog=P->X.w=w->X.K=K->X.calm=true->∀(i:Nat) (pins:List (Addr×Obj)) (s:Shared) (σ:St) (H:Hp) (E:Value->Shared->Prop),Inv X pins σ H s->(∀b∈fp,FpOk X pins H b)->tn i s.heap->J.stop i H->
  wpAny (model P w) X.A (pyNext (.ref it)) (fun r s1=>r=none∧Inv X pins σ H s1) E s
 self:∀(A:Around) (i:Nat) (s:Shared) (Q:Value->Shared->Prop) (E:Value->Shared->Prop),tn i s.heap->Q (.ref it) s->wpAny (model P w) A (pyIter (.ref it)) Q E s
abbrev TI:=St->Hp->(It->Hp->Prop)->Prop
def PIE(X:Cx)(pins:List (Addr×Obj))(σ:St)(tg:Expr)(R:It->Hp->Prop)(itv:Value)(s2:Shared):Prop:=
 ∃(it:Addr) (fp:List Addr) (tn:Nat->Heap->Prop) (J:It) (H':Hp),itv=.ref it∧Inv X pins σ H' s2∧Turn X.prog X.w X.K tg J fp it tn∧tn 0 s2.heap∧(∀b∈fp,FpOk X pins H' b)∧R J H'
def PI (X:Cx) (tg iter:Expr) (wi:TI):Prop:=
 ∀(pins:List (Addr×Obj)) (s:Shared) (σ:St) (H:Hp) (R:It->Hp->Prop),Inv X pins σ H s->wi σ H R->
   wpAny (model X.prog X.w) X.A (eval iter X.env) (fun v s1=>wpAny (model X.prog X.w) X.A (pyIter v) (PIE X pins σ tg R) X.xe s1) X.xe s
theorem go_of (ho:s.heap.get? it=some o) (hc:o.cls=.type n) (hd:o.data=.fields vs)
  (hn:["enumerate", "zip", "dict_itemiterator", "dict_reverseitemiterator", "odict_iterator", "itertools.zip_longest", "itertools.pairwise"].contains n=false) (hQ:Q () s):wpAny M A (letOwnedTupleGo tg (.ref it) u) Q E s:=by
 unfold letOwnedTupleGo
 cases tg<;>first
  |exact wpAny_pure hQ
  | (cases u<;>first
      |exact wpAny_pure hQ
      | (refine wpAny_bind (wpAny_load ho ?_)
         rw[hc,hd]
         show wpAny M A (if (["enumerate", "zip", "dict_itemiterator", "dict_reverseitemiterator", "odict_iterator", "itertools.zip_longest", "itertools.pairwise"].contains n&&vs[0]?==some (rawInt _))=true then _ else _) Q E s
         rw[if_neg (by intro h;rw[hn,Bool.false_and] at h;cases h)]
         exact wpAny_pure hQ))
def Itl(K:PySem.W.Frag)(a:Addr):It:=
 ⟨fun i H=>∃xs x,SqL K H a xs∧xs[i]?=some x,fun i H x H'=>H'=H∧∀xs,SqL K H a xs->xs[i]?=some x,fun i H=>∃xs,SqL K H a xs∧xs.length≤i⟩
def Itt(K:PySem.W.Frag)(a:Addr):It:=
 ⟨fun i H=>∃xs x,SqT K H a xs∧xs[i]?=some x,fun i H x H'=>H'=H∧∀xs,SqT K H a xs->xs[i]?=some x,fun i H=>∃xs,SqT K H a xs∧xs.length≤i⟩
def Itr(lo:Int)(n:Nat):It:=⟨fun i _=>i<n,fun i H x H'=>H'=H∧x=.int (lo+i),fun i _=>n≤i⟩
theorem turn_list{P:Program}{w:World}{K:PySem.W.Frag}{tg:Expr}(a it:Addr):Turn P w K tg (Itl K a) [it] it (fun i h=>h.IsListIter it a i) where
 mem:=by simp
 obj:=fun i h st b hb=>by
  have e:b=it:=by simpa using hb
  subst e
  obtain⟨o,e,c,d⟩:=st
  exact⟨o,e,fun v z=>by rw[d] at z;cases z⟩
 keep:=fun i h h' st k=>st.at fun o e=>k it (by simp) o e
 item:=by
  intro X hP hw hK hc i pins s σ H E I hf st hg
  subst hP hw hK
  obtain⟨xs,x,hq,hx⟩:=hg
  obtain⟨its,rv,p,hz⟩:=I.list hq
  obtain⟨u,hu,ru⟩:=rv.get hx
  obtain⟨f0,f1,f2,f3,f4,f5⟩:=hf it (by simp)
  refine wpAny_pyNext_list_item st p.isList (x:=u) (by simpa using hu) fun h' st' sb=>?_
  have I1:Inv X pins σ H { s with heap:=h' }:=I.turned (t':=s.toks) (fun b o hb e=>(sb.2 b hb).trans e) f0 f1 f3 f4 f5
  obtain⟨o,e,c,d⟩:=id st'
  exact⟨u,rfl,go_of (s:={ s with heap:=h' }) e c d (by decide) ⟨x,H,I1,ru,⟨rfl,fun ys hy=>by rw[I.list_inj hy hq];exact hx⟩,st',fun b hb=>(hf b hb).1⟩⟩
 done:=by
  intro X hP hw hK hc i pins s σ H E I hf st hg
  subst hP hw hK
  obtain⟨xs,hq,hx⟩:=hg
  obtain⟨its,rv,p,hz⟩:=I.list hq
  obtain⟨f0,f1,f2,f3,f4,f5⟩:=hf it (by simp)
  have hl:=rv.length
  exact wpAny_pyNext_list_end (I.ok.hd hc) st p.isList (by simp;omega) fun h' eb=>⟨rfl,I.turned (t':=s.toks) (fun b o hb e=>eb b o hb e) f0 f1 f3 f4 f5⟩
 self:=fun _ _ _ _ _ st h=>wpAny_pyIter_listiter st h
theorem turn_tuple{P:Program}{w:World}{K:PySem.W.Frag}{tg:Expr}(a it:Addr):Turn P w K tg (Itt K a) [it] it (fun i h=>h.IsTupleIter it a i) where
 mem:=by simp
 obj:=fun i h st b hb=>by
  have e:b=it:=by simpa using hb
  subst e
  obtain⟨o,e,c,d⟩:=st
  exact⟨o,e,fun v z=>by rw[d] at z;cases z⟩
 keep:=fun i h h' st k=>st.at fun o e=>k it (by simp) o e
 item:=by
  intro X hP hw hK hc i pins s σ H E I hf st hg
  subst hP hw hK
  obtain⟨xs,x,hq,hx⟩:=hg
  obtain⟨its,rv,p,hz⟩:=I.tuple hq
  obtain⟨u,hu,ru⟩:=rv.get hx
  obtain⟨f0,f1,f2,f3,f4,f5⟩:=hf it (by simp)
  refine wpAny_pyNext_tuple_item st (show s.heap.IsTuple a its.toArray from p) (x:=u) (by simpa using hu) fun h' st' sb=>?_
  have I1:Inv X pins σ H { s with heap:=h' }:=I.turned (t':=s.toks) (fun b o hb e=>(sb.2 b hb).trans e) f0 f1 f3 f4 f5
  obtain⟨o,e,c,d⟩:=id st'
  exact⟨u,rfl,go_of (s:={ s with heap:=h' }) e c d (by decide) ⟨x,H,I1,ru,⟨rfl,fun ys hy=>by rw[I.tuple_inj hy hq];exact hx⟩,st',fun b hb=>(hf b hb).1⟩⟩
 done:=by
  intro X hP hw hK hc i pins s σ H E I hf st hg
  subst hP hw hK
  obtain⟨xs,hq,hx⟩:=hg
  obtain⟨its,rv,p,hz⟩:=I.tuple hq
  obtain⟨f0,f1,f2,f3,f4,f5⟩:=hf it (by simp)
  have hl:=rv.length
  exact wpAny_pyNext_tuple_end (I.ok.hd hc) st (show s.heap.IsTuple a its.toArray from p) (by simp;omega) fun h' eb=>⟨rfl,I.turned (t':=s.toks) (fun b o hb e=>eb b o hb e) f0 f1 f3 f4 f5⟩
 self:=fun _ _ _ _ _ st h=>wpAny_pyIter_tupleiter st h
theorem turn_range {P:Program}{w:World}{K:PySem.W.Frag}{tg:Expr} (it:Addr) (lo:Int) (n:Nat):Turn P w K tg (Itr lo n) [it] it (fun i h=>IsRangeIter h it (lo + (i:Nat) * 1) ((n:Int) - (i:Nat)) 1) where
 mem:=by simp
 obj:=fun i h st b hb=>by
  have e:b=it:=by simpa using hb
  subst e
  exact⟨_,st,fun v z=>by
   have z':Data.fields _=Data.cell v:=z
   cases z'⟩
 keep:=fun i h h' st k=>k it (by simp) _ st
 item:=by
  intro X hP hw hK hc i pins s σ H E I hf st hg
  subst hP hw hK
  obtain⟨f0,f1,f2,f3,f4,f5⟩:=hf it (by simp)
  have W:=Walks.range (prog:=X.prog) (w:=X.w) (I.ok.hd hc) it lo 1 n
  refine W.item i s _ _ hg st fun v h' tk hv st' kk=>?_
  obtain⟨t,rfl⟩:=hv
  have I1:Inv X pins σ H { s with heap:=h',toks:=tk }:=I.turned (fun b o hb e=>kk b o (by simpa using hb) e) f0 f1 f3 f4 f5
  refine⟨_,rfl,go_of (s:={ s with heap:=h',toks:=tk }) (n := "range_iterator") st' rfl rfl (by decide) ⟨.int (lo+i),H,I1,⟨t,?_⟩,⟨rfl,rfl⟩,st',fun b hb=>(hf b hb).1⟩⟩
  rw[Int.mul_one]
 done:=by
  intro X hP hw hK hc i pins s σ H E I hf st hg
  subst hP hw hK
  obtain⟨f0,f1,f2,f3,f4,f5⟩:=hf it (by simp)
  exact wpAny_pyNext_range_end (I.ok.hd hc) st (by have:n≤i:=hg;omega) fun h' eb=>⟨rfl,I.turned (t':=s.toks) (fun b o hb e=>eb b o hb e) f0 f1 f3 f4 f5⟩
 self:=fun _ _ _ _ _ st h=>wpAny_pyIter_rangeiter st h
open PySem PySem.Spec PyProof.Rows
section
variable{X:Cx}{tg:Expr}
def iTup(K:PySem.W.Frag)(tl:TE):TI:=fun σ H R=>tl σ H fun x H1=>∃a,x=.ref a∧(∃xs,SqT K H1 a xs)∧R (Itt K a) H1
theorem pi_tup{l:Expr}{tl:TE}(hl:PE X l tl):PI X tg l (iTup X.K tl):=by
 intro pins s σ H R I h
 refine thn (hl pins s σ H _ I h) fun v s1 ⟨x,H1,I1,r1,q1⟩=>?_
 obtain⟨a,e,⟨xs,hq⟩,q⟩:=q1
 subst e
 cases r1
 obtain⟨its,rv,p,hz⟩:=I1.tuple hq
 refine wpAny_pyIter_tuple (show s1.heap.IsTuple a its.toArray from p) ?_
 refine⟨s1.heap.objs.size,[s1.heap.objs.size],_,_,H1,rfl,I1.kept (t':=s1.toks) fun b o e=>Heap.get?_push_of_some _ e,turn_tuple a _,⟨_,Heap.get?_push_size _ rfl,rfl,rfl⟩,fun b hb=>?_,q⟩
 have e:b=s1.heap.objs.size:=by simpa using hb
 subst e
 exact I1.fpOk (Nat.le_refl _) (I1.hok.fresh (Nat.le_refl _))
theorem range_it{pins:List (Addr×Obj)}{R:It->Hp->Prop}{E:Value->Shared->Prop}{lo hi:Int}{tk:Nat}(I:Inv X pins σ H s)(h1:-(2^62)≤lo)(h2:lo<2^62)(h3:-(2^62)≤hi)(h4:hi<2^62)
  (q:R (Itr lo (hi-lo).toNat) H):wpAny (model X.prog X.w) X.A (pyIter (.ref s.heap.objs.size)) (PIE X pins σ tg R) E { s with heap:=s.heap.push { cls:=.type "range",data:=.fields #[.int lo t,.int hi u,.int 1 v] },toks:=tk }:=by
 refine wpAny_pyIter_range (IsRange.new ..) (small_one h1 h2 h3 h4) ?_
 have I1:Inv X pins σ H { s with heap:=s.heap.push { cls:=.type "range",data:=.fields #[.int lo t,.int hi u,.int 1 v] },toks:=tk }:=I.kept fun b o e=>Heap.get?_push_of_some _ e
 refine⟨(s.heap.push { cls:=.type "range",data:=.fields #[.int lo t,.int hi u,.int 1 v] }).objs.size,[(s.heap.push { cls:=.type "range",data:=.fields #[.int lo t,.int hi u,.int 1 v] }).objs.size],_,_,H,rfl,
  I1.kept (t':=tk) fun b o e=>Heap.get?_push_of_some _ e,turn_range _ lo (hi-lo).toNat,?_,fun b hb=>?_,q⟩
 ·have e1:lo+((0:Nat):Int)*1=lo:=by simp
  have e2:(((hi-lo).toNat:Nat):Int)-((0:Nat):Int)=Builtin.Range.rangeSize lo hi 1:=by rw[rangeSize_one];split<;>omega
  show IsRangeIter _ _ (lo+((0:Nat):Int)*1) ((((hi-lo).toNat:Nat):Int)-((0:Nat):Int)) 1
  rw[e1,e2]
  exact Heap.get?_push_size _ rfl
 ·have e:b=(s.heap.push { cls:=.type "range",data:=.fields #[.int lo t,.int hi u,.int 1 v] }).objs.size:=by simpa using hb
  subst e
  exact I1.fpOk (Nat.le_refl _) (I1.hok.fresh (Nat.le_refl _))
def iRng1(ta:TA):TI:=fun σ H R=>ta σ H fun vs H1=>∃j:Int,vs=[.int j]∧-(2^62)≤j∧j<2^62∧R (Itr 0 j.toNat) H1
theorem pi_range1 (hg:Gl X "range") (hm:X.mg "range"=none) (ha:PA X [a] ta) (hs:starEach [a] X.env=[(false,eval a X.env)]:=by rfl):PI X tg (.Call (.Name "range" p) [a] [] pos) (iRng1 ta):=by
 intro pins s σ H R I h
 refine Call_ (ld_blt I hg hm boot_range (PyProof.Rows.callWith_type1 (thn (ha pos pins s σ H _ I h) fun us s1 ⟨vs,H1,I1,r1,q1⟩=>?_) hs rfl))
 obtain⟨j,e,q1,q2,q⟩:=q1
 subst e
 cases r1 with
 |cons r rr=>
   cases rr
   obtain⟨t,rfl⟩:=r
   exact call_range_1 (range_it I1 (by omega) (by omega) q1 q2 (by simpa using q))
def tFor(wi:TI)(g:TG)(tb:TS):TS:=fun D σ H=>wi σ H fun J H1=>∃W:Nat->Nat->St->Hp->Prop,(∃m,W 0 m σ H1)∧∀i m σ H,W i m σ H->
 (J.stop i H∧D.nx σ H)∨(J.go i H∧∃N:St->Hp->Prop,(∀σ' H',N σ' H'->∃m',m'<m∧W (i+1) m' σ' H')∧∀x H',J.yld i H x H'->g x σ H' fun σ2 H2=>tb { D with nx:=N,ct:=N,bk:=D.nx } σ2 H2)
def pinsAt(fp:List Addr)(h:Heap):List (Addr×Obj):=fp.filterMap fun b=>(h.get? b).map fun o=>(b,o)
theorem mem_pinsAt(hb:b∈fp)(e:h.get? b=some o):(b,o)∈pinsAt fp h:=List.mem_filterMap.mpr ⟨b,hb,by rw[e];rfl⟩
theorem of_pinsAt (hp:p∈pinsAt fp h):p.1∈fp∧h.get? p.1=some p.2:=by
 obtain⟨b,hb,e⟩:=List.mem_filterMap.mp hp
 cases q:h.get? b with
 |none=>rw[q] at e;cases e
 |some o=>
   rw[q] at e
   have e':(b,o)=p:=Option.some.inj e
   subst e'
   exact⟨hb,q⟩
theorem Inv.pinned(I:Inv X pins σ H s)(hf:∀b∈fp,FpOk X pins H b)(ho:∀b∈fp,∃o,s.heap.get? b=some o∧∀v,o.data≠.cell v):Inv X (pins++pinsAt fp s.heap) σ H s:=
 I.pins_of fun p hp=>(List.mem_append.mp hp).elim (fun z=>I.pin p (List.mem_append_right _ z)) fun z=>by
  obtain⟨hb,e⟩:=of_pinsAt z
  obtain⟨f0,f1,f2,_⟩:=hf p.1 hb
  obtain⟨o,e',d⟩:=ho p.1 hb
  rw[e] at e';cases e'
  exact⟨e,f0,f1,f2,d⟩
theorem Inv.unpinned(I:Inv X (pins++pl) σ H s):Inv X pins σ H s:=I.pins_of fun p hp=>I.pin p (List.mem_append_right _ (List.mem_append_left _ hp))
theorem ps_for (hp:PassesOwn (model X.prog X.w) X.A X.env X.xe) (hc:X.calm=true) (hi:PI X tg iter wi) (hg:PG X tg g) (hb:PSs X body tb)
  (hs:∀x,foldedSetIterable iter X.env x=pure x:=by intro _;rfl):PS X (.For tg iter body [] pos) (tFor wi g tb):=by
 intro pins s σ H D I h
 refine wpAny_For (thn (hi pins s σ H _ I h) fun v s1 h1=>thn h1 fun itv s2 h2=>?_) hs
 obtain⟨it,fp,tn,J,H2,e,I2,T,st2,f2,W,⟨m0,w0⟩,turn⟩:=h2
 subst e
 -- what stays true of the iterator's objects through the loop
 have stat:∀{H':Hp},(∀b∈fp,H' b=none)->∀b∈fp,FpOk X pins H' b:=fun hn b hb=>⟨hn b hb,(f2 b hb).2⟩
 refine codeAny_forLoop_any (fun n s'=>∃i σ' H',Inv X pins σ' H' s'∧tn i s'.heap∧(∀b∈fp,H' b=none)∧W i n σ' H') ?_ m0 ⟨0,σ,H2,I2,st2,fun b hb=>(f2 b hb).1,w0⟩
 rintro n s3 ⟨i,σ3,H3,I3,st3,fr3,w3⟩
 rcases turn i n σ3 H3 w3 with ⟨stop,qn⟩ | ⟨go,N,hN,step⟩
 ·refine wpAny_passesOwn hp (thn (T.done X rfl rfl rfl hc i pins s3 σ3 H3 X.xe I3 (stat fr3) st3 stop) fun r s4 ⟨hr,I4⟩=>?_)
  subst hr
  exact wpAny_execs_nil ⟨σ3,H3,I4,qn⟩
 ·refine wpAny_passesOwn hp (thn (T.item X rfl rfl rfl hc i pins s3 σ3 H3 X.xe I3 (stat fr3) st3 go) fun r s4 ⟨u,hr,h4⟩=>?_)
  subst hr
  refine wpAny_passesOwn hp (thn h4 fun _ s5 ⟨x,H5,I5,r5,y5,st5,fr5⟩=>?_)
  have I5':=I5.pinned (stat fr5) (T.obj _ _ st5)
  refine wpAny_passesOwn hp (thn (hg _ s5 σ3 H5 x u _ I5' r5 (step x H5 y5)) fun _ s6 ⟨σ6,H6,I6,q6⟩=>?_)
  refine wpAny_passesOwn hp (thn (hb _ s6 σ6 H6 _ I6 q6) fun f s7 q7=>?_)
  have again:∀{σ7:St}{H7:Hp},Inv X (pins++pinsAt fp s5.heap) σ7 H7 s7->N σ7 H7->∃m,m<n∧∃i σ' H',Inv X pins σ' H' s7∧tn i s7.heap∧(∀b∈fp,H' b=none)∧W i m σ' H':=fun {σ7 H7} I7 n7=>by
   obtain⟨m',hm,w7⟩:=hN σ7 H7 n7
   refine⟨m',hm,i+1,σ7,H7,I7.unpinned,T.keep _ _ _ st5 fun b hb o e=>(I7.pin (b,o) (List.mem_append_right _ (List.mem_append_right _ (mem_pinsAt hb e)))).1,fun b hb=>?_,w7⟩
   obtain⟨o,e,d⟩:=T.obj _ _ st5 b hb
   exact (I7.pin (b,o) (List.mem_append_right _ (List.mem_append_right _ (mem_pinsAt hb e)))).2.1
  cases f with
  |next=>obtain⟨σ7,H7,I7,n7⟩:=q7;exact again I7 n7
  |cont=>obtain⟨σ7,H7,I7,n7⟩:=q7;exact again I7 n7
  |brk=>obtain⟨σ7,H7,I7,q7⟩:=q7;exact⟨σ7,H7,I7.unpinned,q7⟩
  |ret v=>obtain⟨x7,σ7,H7,I7,r7,q7⟩:=q7;exact⟨x7,σ7,H7,I7.unpinned,r7,q7⟩
end
open PySem PySem.Spec PyProof.Rows
abbrev R2:=V->V->Hp->VK->Prop
def OpR (X:Cx) (f:Value->Value->Sem Value) (r:R2):Prop:=
 ∀(pins:List (Addr×Obj)) (s:Shared) (σ:St) (H:Hp) (x y:V) (v u:Value) (Q:VK),Inv X pins σ H s->RelV x v->RelV y u->r x y H Q->
   wpAny (model X.prog X.w) X.A (f v u) (EP X pins σ Q) X.xe s
def UnR (X:Cx) (f:Value->Sem Value) (r:V->Hp->VK->Prop):Prop:=
 ∀(pins:List (Addr×Obj)) (s:Shared) (σ:St) (H:Hp) (x:V) (v:Value) (Q:VK),Inv X pins σ H s->RelV x v->r x H Q->
   wpAny (model X.prog X.w) X.A (f v) (EP X pins σ Q) X.xe s
def CallR (X:Cx) (f:Value) (r:List V->Hp->VK->Prop):Prop:=
 ∀(pins:List (Addr×Obj)) (s:Shared) (σ:St) (H:Hp) (xs:List V) (us:List Value) (Q:VK),Inv X pins σ H s->Vals xs us->r xs H Q->
   wpAny (model X.prog X.w) X.A (call f us) (EP X pins σ Q) X.xe s
def TruR (X:Cx) (r:V->Hp->(Bool->Hp->Prop)->Prop):Prop:=
 ∀(pins:List (Addr×Obj)) (s:Shared) (σ:St) (H:Hp) (x:V) (v:Value) (Q:Bool->Hp->Prop),Inv X pins σ H s->RelV x v->r x H Q->
   wpAny (model X.prog X.w) X.A (truthy v) (TP X pins σ Q) X.xe s
def tOp(r:R2)(ta tb:TE):TE:=fun σ H Q=>ta σ H fun x H1=>tb σ H1 fun y H2=>r x y H2 Q
def tUn(r:V->Hp->VK->Prop)(ta:TE):TE:=fun σ H Q=>ta σ H fun x H1=>r x H1 Q
def rI(C:Int->Int->Prop)(g:Int->Int->V):R2:=fun x y H Q=>∃i j,x=.int i∧y=.int j∧C i j∧Q (g i j) H
def rI0(g:Int->Int->V):R2:=fun x y H Q=>∃i j,x=.int i∧y=.int j∧Q (g i j) H
def rU(g:Int->V):V->Hp->VK->Prop:=fun x H Q=>∃i,x=.int i∧Q (g i) H
section
variable{X:Cx}{a b c:Expr}{ta tb tc:TE}{pos:Pos}
theorem binT(ha:PE X a ta)(hb:PE X b tb){pins:List (Addr×Obj)}{R:V->V->Hp->Prop}(I:Inv X pins σ H s)
  (h:ta σ H fun x H1=>tb σ H1 fun y H2=>R x y H2) {Q:Value->Shared->Prop}{f:Value->Value->Sem Value}
  (hf:∀v u s2 x y H2,Inv X pins σ H2 s2->RelV x v->RelV y u->R x y H2->wpAny (model X.prog X.w) X.A (f v u) Q X.xe s2) :
  wpAny (model X.prog X.w) X.A (eval a X.env) (fun v s₁=>wpAny (model X.prog X.w) X.A (eval b X.env) (fun u s₂=>wpAny (model X.prog X.w) X.A (f v u) Q X.xe s₂) X.xe s₁) X.xe s:=by
 refine thn (ha pins s σ H _ I h) fun v s1 ⟨x,H1,I1,r1,q1⟩=>?_
 refine thn (hb pins s1 σ H1 _ I1 q1) fun u s2 ⟨y,H2,I2,r2,q2⟩=>?_
 exact hf v u s2 x y H2 I2 r1 r2 q2
theorem pe_op(ho:OpR X (binaryOp op) r)(ha:PE X a ta)(hb:PE X b tb):PE X (.BinOp a op b pos) (tOp r ta tb):=by
 intro pins s σ H Q I h
 exact wpAny_BinOp (binT ha hb I h fun v u s2 x y H2 I2 rx ry q=>ho pins s2 σ H2 x y v u Q I2 rx ry q)
theorem pe_un(ho:UnR X (unaryOp op) r)(ha:PE X a ta):PE X (.UnaryOp op a pos) (tUn r ta):=by
 intro pins s σ H Q I h
 exact UnaryOp_ (thn (ha pins s σ H _ I h) fun v s1 ⟨x,H1,I1,r1,q1⟩=>ho pins s1 σ H1 x v Q I1 r1 q1)
theorem opI{f:Value->Value->Sem Value}{C:Int->Int->Prop}{g:Int->Int->Int}
  (rule:∀(i j:Int) (t u:Tok) (s:Shared) (Q:Value->Shared->Prop) (E:Value->Shared->Prop),C i j->Q (.int (g i j) s.toks) { s with toks:=s.toks+1 }->wpAny (model X.prog X.w) X.A (f (.int i t) (.int j u)) Q E s) :
  OpR X f (rI C fun i j=>.int (g i j)):=by
 intro pins s σ H x y v u Q I rx ry h
 obtain⟨i,j,rfl,rfl,hc,q⟩:=h
 obtain⟨t,rfl⟩:=rx
 obtain⟨t',rfl⟩:=ry
 exact rule i j t t' s _ _ hc ⟨.int (g i j),H,I.tok _,⟨_,rfl⟩,q⟩
theorem opI0{f:Value->Value->Sem Value}{g:Int->Int->Int}
  (rule:∀(i j:Int) (t u:Tok) (s:Shared) (Q:Value->Shared->Prop) (E:Value->Shared->Prop),Q (.int (g i j) s.toks) { s with toks:=s.toks+1 }->wpAny (model X.prog X.w) X.A (f (.int i t) (.int j u)) Q E s) :
  OpR X f (rI0 fun i j=>.int (g i j)):=by
 intro pins s σ H x y v u Q I rx ry h
 obtain⟨i,j,rfl,rfl,q⟩:=h
 obtain⟨t,rfl⟩:=rx
 obtain⟨t',rfl⟩:=ry
 exact rule i j t t' s _ _ ⟨.int (g i j),H,I.tok _,⟨_,rfl⟩,q⟩
theorem opB0{f:Value->Value->Sem Value}{g:Int->Int->Bool}
  (rule:∀(i j:Int) (t u:Tok) (s:Shared) (Q:Value->Shared->Prop) (E:Value->Shared->Prop),Q (.bool (g i j)) s->wpAny (model X.prog X.w) X.A (f (.int i t) (.int j u)) Q E s) :
  OpR X f (rI0 fun i j=>.bl (g i j)):=by
 intro pins s σ H x y v u Q I rx ry h
 obtain⟨i,j,rfl,rfl,q⟩:=h
 obtain⟨t,rfl⟩:=rx
 obtain⟨t',rfl⟩:=ry
 exact rule i j t t' s _ _ ⟨.bl (g i j),H,I,rfl,q⟩
def CPow(i j:Int):Prop:=0≤j∧j≤1000000∧i.natAbs<2^64
theorem op_add:OpR X (binaryOp .Add) (rI0 fun i j=>.int (i+j)):=opI0 fun _ _ _ _ _ _ _ q=>add_int q
theorem op_sub:OpR X (binaryOp .Sub) (rI0 fun i j=>.int (i-j)):=opI0 fun _ _ _ _ _ _ _ q=>sub_int q
theorem op_mod:OpR X (binaryOp .Mod) (rI (fun _ j=>0<j) fun i j=>.int (i%j)):=opI fun i j _ _ _ _ _ hc q=>by
 have h1:(0:Int)<j:=hc
 exact mod_int' (by omega) (by rw[Int.fmod_eq_emod_of_nonneg i (by omega)];exact q)
theorem op_pow:OpR X (binaryOp .Pow) (rI CPow fun i j=>.int (i^j.toNat)):=opI fun _ _ _ _ _ _ _ hc q=>pow_int_small hc.1 hc.2.1 hc.2.2 q
theorem iop_add:OpR X (inplaceOp .Add) (rI0 fun i j=>.int (i+j)):=opI0 fun _ _ _ _ _ _ _ q=>iadd_int q
theorem iop_sub:OpR X (inplaceOp .Sub) (rI0 fun i j=>.int (i-j)):=opI0 fun _ _ _ _ _ _ _ q=>isub_int q
theorem unI{f:Value->Sem Value}{g:Int->Int}
  (rule:∀(i:Int) (t:Tok) (s:Shared) (Q:Value->Shared->Prop) (E:Value->Shared->Prop),Q (.int (g i) s.toks) { s with toks:=s.toks+1 }->wpAny (model X.prog X.w) X.A (f (.int i t)) Q E s) :
  UnR X f (rU fun i=>.int (g i)):=by
 intro pins s σ H x v Q I rx h
 obtain⟨i,rfl,q⟩:=h
 obtain⟨t,rfl⟩:=rx
 exact rule i t s _ _ ⟨.int (g i),H,I.tok _,⟨_,rfl⟩,q⟩
theorem un_neg:UnR X (unaryOp .USub) (rU fun i=>.int (-i)):=unI fun _ _ _ _ _ q=>neg_int q
end
def scal:V->V->Bool
 |.non,.non=>true | .non,.int _=>true | .int _,.non=>true | .non,.bl _=>true | .bl _,.non=>true | .non,.str _=>true | .str _,.non=>true
 |.int _,.int _=>true | .bl _,.bl _=>true | .str _,.str _=>true | .byt _,.byt _=>true
 |.int _,.str _=>true | .str _,.int _=>true | .bl _,.str _=>true | .str _,.bl _=>true
 |_,_=>false
def rEq:R2:=fun x y H Q=>scal x y=true∧Q (.bl (decide (x=y))) H
def rNe:R2:=fun x y H Q=>scal x y=true∧Q (.bl (!decide (x=y))) H
theorem dec_int:decide (V.int i=V.int j)=(i==j):=by
 rw[Bool.eq_iff_iff]
 simp
theorem dec_bl:decide (V.bl i=V.bl j)=(i==j):=by
 rw[Bool.eq_iff_iff]
 simp
theorem dec_str:decide (V.str i=V.str j)=(i==j):=by
 rw[Bool.eq_iff_iff]
 simp
theorem dec_byt:decide (V.byt i=V.byt j)=(i.toList==j.toList):=by
 rw[Bool.eq_iff_iff]
 cases i
 cases j
 simp
section
variable{X:Cx}{a b c:Expr}{ta tb tc:TE}{pos:Pos}
theorem fin_bl(I:Inv X pins σ H s)(q:Q (.bl k) H)(e:k=k'):EP X pins σ Q (.bool k') s:=by
 subst e
 exact⟨.bl k,H,I,rfl,q⟩
theorem op_eq:OpR X (compareOp .Eq) rEq:=by
 intro pins s σ H x y v u Q I rx ry h
 obtain⟨hs,q⟩:=h
 cases x with
 |non=>
   cases rx
   cases y with
   |non=>cases ry;exact PySem.EqNone.eq_none_none (fin_bl I q (by simp))
   |bl j=>cases ry;exact PySem.EqNone.eq_none_bool (fin_bl I q (by simp))
   |int j=>obtain⟨t',rfl⟩:=ry;exact PySem.EqNone.eq_none_int (fin_bl I q (by simp))
   |str j=>obtain⟨t',rfl⟩:=ry;exact PySem.EqNone.eq_none_str (fin_bl I q (by simp))
   |_=>exact absurd (show false=true from hs) Bool.false_ne_true
 |bl i=>
   cases rx
   cases y with
   |non=>cases ry;exact PySem.EqNone.eq_bool_none (fin_bl I q (by simp))
   |bl j=>cases ry;exact eq_bool (fin_bl I q dec_bl)
   |str j=>obtain⟨t',rfl⟩:=ry;exact PySem.EqMixed.eq_bool_str (fin_bl I q (by simp))
   |_=>exact absurd (show false=true from hs) Bool.false_ne_true
 |int i=>
   obtain⟨t,rfl⟩:=rx
   cases y with
   |non=>cases ry;exact PySem.EqNone.eq_int_none (fin_bl I q (by simp))
   |int j=>obtain⟨t',rfl⟩:=ry;exact eq_int (fin_bl I q dec_int)
   |str j=>obtain⟨t',rfl⟩:=ry;exact PySem.EqMixed.eq_int_str (fin_bl I q (by simp))
   |_=>exact absurd (show false=true from hs) Bool.false_ne_true
 |str i=>
   obtain⟨t,rfl⟩:=rx
   cases y with
   |non=>cases ry;exact PySem.EqNone.eq_str_none (fin_bl I q (by simp))
   |bl j=>cases ry;exact PySem.EqMixed.eq_str_bool (fin_bl I q (by simp))
   |int j=>obtain⟨t',rfl⟩:=ry;exact PySem.EqMixed.eq_str_int (fin_bl I q (by simp))
   |str j=>obtain⟨t',rfl⟩:=ry;exact eq_str (fin_bl I q dec_str)
   |_=>exact absurd (show false=true from hs) Bool.false_ne_true
 |byt i=>
   obtain⟨t,rfl⟩:=rx
   cases y with
   |byt j=>obtain⟨t',rfl⟩:=ry;exact PySem.W.eq_bytes (fin_bl I q dec_byt)
   |_=>exact absurd (show false=true from hs) Bool.false_ne_true
 |_=>cases y<;>exact absurd (show false=true from hs) Bool.false_ne_true
theorem op_ne:OpR X (compareOp .NotEq) rNe:=by
 intro pins s σ H x y v u Q I rx ry h
 obtain⟨hs,q⟩:=h
 cases x with
 |non=>
   cases rx
   cases y with
   |non=>cases ry;exact PySem.EqNone.ne_none_none (fin_bl I q (by simp))
   |bl j=>cases ry;exact PySem.EqNone.ne_none_bool (fin_bl I q (by simp))
   |int j=>obtain⟨t',rfl⟩:=ry;exact PySem.EqNone.ne_none_int (fin_bl I q (by simp))
   |str j=>obtain⟨t',rfl⟩:=ry;exact PySem.EqNone.ne_none_str (fin_bl I q (by simp))
   |_=>exact absurd (show false=true from hs) Bool.false_ne_true
 |bl i=>
   cases rx
   cases y with
   |non=>cases ry;exact PySem.EqNone.ne_bool_none (fin_bl I q (by simp))
   |bl j=>cases ry;exact ne_bool (fin_bl I q (congrArg not dec_bl))
   |str j=>obtain⟨t',rfl⟩:=ry;exact PySem.EqMixed.ne_bool_str (fin_bl I q (by simp))
   |_=>exact absurd (show false=true from hs) Bool.false_ne_true
 |int i=>
   obtain⟨t,rfl⟩:=rx
   cases y with
   |non=>cases ry;exact PySem.EqNone.ne_int_none (fin_bl I q (by simp))
   |int j=>obtain⟨t',rfl⟩:=ry;exact ne_int (fin_bl I q (congrArg not dec_int))
   |str j=>obtain⟨t',rfl⟩:=ry;exact PySem.EqMixed.ne_int_str (fin_bl I q (by simp))
   |_=>exact absurd (show false=true from hs) Bool.false_ne_true
 |str i=>
   obtain⟨t,rfl⟩:=rx
   cases y with
   |non=>cases ry;exact PySem.EqNone.ne_str_none (fin_bl I q (by simp))
   |bl j=>cases ry;exact PySem.EqMixed.ne_str_bool (fin_bl I q (by simp))
   |int j=>obtain⟨t',rfl⟩:=ry;exact PySem.EqMixed.ne_str_int (fin_bl I q (by simp))
   |str j=>obtain⟨t',rfl⟩:=ry;exact ne_str (fin_bl I q (congrArg not dec_str))
   |_=>exact absurd (show false=true from hs) Bool.false_ne_true
 |byt i=>
   obtain⟨t,rfl⟩:=rx
   cases y with
   |byt j=>obtain⟨t',rfl⟩:=ry;exact PySem.W.ne_bytes (fin_bl I q (congrArg not dec_byt))
   |_=>exact absurd (show false=true from hs) Bool.false_ne_true
 |_=>cases y<;>exact absurd (show false=true from hs) Bool.false_ne_true
theorem op_lt:OpR X (compareOp .Lt) (rI0 fun i j=>.bl (decide (i<j))):=opB0 fun _ _ _ _ _ _ _ q=>lt_int q
theorem op_le:OpR X (compareOp .LtE) (rI0 fun i j=>.bl (decide (i≤j))):=opB0 fun _ _ _ _ _ _ _ q=>le_int q
theorem op_gt:OpR X (compareOp .Gt) (rI0 fun i j=>.bl (decide (j<i))):=opB0 fun _ _ _ _ _ _ _ q=>gt_int q
theorem op_ge:OpR X (compareOp .GtE) (rI0 fun i j=>.bl (decide (j≤i))):=opB0 fun _ _ _ _ _ _ _ q=>ge_int q
theorem op_isN:OpR X (compareOp .Is) (fun x y H Q=>y=.non∧Q (.bl (decide (x=.non))) H):=by
 intro pins s σ H x y v u Q I rx ry h
 obtain⟨rfl,q⟩:=h
 cases ry
 refine is_none_gen (fin_bl I q ?_)
 cases x<;>first
  |(cases rx;rfl)
  |(obtain⟨t,rfl⟩:=rx;rfl)
theorem OpR.or(h:OpR X f r)(h':OpR X f r'):OpR X f (fun x y H Q=>r x y H Q∨r' x y H Q):=by
 intro pins s σ H x y v u Q I rx ry q
 rcases q with q | q
 ·exact h pins s σ H x y v u Q I rx ry q
 ·exact h' pins s σ H x y v u Q I rx ry q
theorem nomark(b:Expr)(h:op≠.In:=by decide)(h2:op≠.NotIn:=by decide):behindInMarks op b=false:=by
 have e1:(op==CmpOp.In)=false:=by cases op<;>first | rfl | exact absurd rfl h
 have e2:(op==CmpOp.NotIn)=false:=by cases op<;>first | rfl | exact absurd rfl h2
 cases b<;>simp[behindInMarks,e1,e2]
theorem pe_cmpR(ho:OpR X (compareOp op) r)(ha:PE X a ta)(hb:PE X b tb)(hm:behindInMarks op b=false):PE X (.Compare a [op] [b] pos) (tOp r ta tb):=by
 intro pins s σ H Q I h
 exact wpAny_Compare1 (binT ha hb I h fun v u s2 x y H2 I2 rx ry q=>ho pins s2 σ H2 x y v u Q I2 rx ry q) hm
def tTest(t:TE):TT:=fun σ H Q=>t σ H fun x H'=>∃k,x=.bl k∧Q k H'
theorem pt_cmpR(ho:OpR X (compareOp op) r)(ha:PE X a ta)(hb:PE X b tb)(hm:behindInMarks op b=false):PT X (.Compare a [op] [b] pos) (tTest (tOp r ta tb)):=by
 intro pins s σ H Q I h
 refine wpAny_isTrue_Compare1 (thn (ha pins s σ H _ I h) fun v s1 ⟨x,H1,I1,r1,q1⟩=>thn (hb pins s1 σ H1 _ I1 q1) fun u s2 ⟨y,H2,I2,r2,q2⟩=>
  thn (ho pins s2 σ H2 x y v u _ I2 r1 r2 q2) fun c s3 ⟨z,H3,I3,r3,k,e,q3⟩=>?_) hm
 subst e
 cases r3
 exact wpAny_truthy_bool ⟨H3,I3,q3⟩
def tChain(r r':R2)(ta tb tc:TE):TE:=fun σ H Q=>ta σ H fun x H1=>tb σ H1 fun y H2=>r x y H2 fun z H3=>∃k,z=.bl k ∧
 (if k=true then tc σ H3 fun w' H4=>r' y w' H4 Q else Q (.bl false) H3)
theorem pe_chain(ho:OpR X (compareOp op) r)(ho':OpR X (compareOp op') r')(ha:PE X a ta)(hb:PE X b tb)(hc:PE X c tc)
  (hm:lastMarks [op,op'] [b,c]=false:=by with_unfolding_all rfl):PE X (.Compare a [op,op'] [b,c] pos) (tChain r r' ta tb tc):=by
 intro pins s σ H Q I h
 refine Compare_chain (thn (ha pins s σ H _ I h) fun v s1 ⟨x,H1,I1,r1,q1⟩=>chain_link (thn (hb pins s1 σ H1 _ I1 q1) fun u s2 ⟨y,H2,I2,r2,q2⟩=>
  thn (ho pins s2 σ H2 x y v u _ I2 r1 r2 q2) fun d s3 ⟨z,H3,I3,r3,k,e,q3⟩=>?_)) hm
 subst e
 cases r3
 refine wpAny_truthy_bool ?_
 cases k with
 |false=>exact ite_ff ⟨.bl false,H3,I3,rfl,q3⟩
 |true=>exact ite_tt (chain_last (thn (hc pins s3 σ H3 _ I3 q3) fun w' s4 ⟨z',H4,I4,r4,q4⟩=>ho' pins s4 σ H4 y z' u w' Q I4 r2 r4 q4))
theorem pt_chain (ho:OpR X (compareOp op) r) (ho':OpR X (compareOp op') r') (ha:PE X a ta) (hb:PE X b tb) (hc:PE X c tc)
  (hm:lastMarks [op,op'] [b,c]=false:=by with_unfolding_all rfl):PT X (.Compare a [op,op'] [b,c] pos) (tTest (tChain r r' ta tb tc)):=by
 intro pins s σ H Q I h
 refine isTrue_chain (thn (ha pins s σ H _ I h) fun v s1 ⟨x,H1,I1,r1,q1⟩=>test_link (thn (hb pins s1 σ H1 _ I1 q1) fun u s2 ⟨y,H2,I2,r2,q2⟩=>
  thn (ho pins s2 σ H2 x y v u _ I2 r1 r2 q2) fun d s3 ⟨z,H3,I3,r3,k,e,q3⟩=>?_)) hm
 subst e
 cases r3
 refine wpAny_truthy_bool ?_
 cases k with
 |false=>
   obtain⟨k',e',q'⟩:=q3
   cases e'
   exact ite_ff ⟨H3,I3,q'⟩
 |true=>
   refine ite_tt (test_last (thn (hc pins s3 σ H3 _ I3 q3) fun w' s4 ⟨z',H4,I4,r4,q4⟩=>thn (ho' pins s4 σ H4 y z' u w' _ I4 r2 r4 q4) fun d' s5 ⟨z2,H5,I5,r5,k2,e2,q5⟩=>?_))
   subst e2
   cases r5
   exact wpAny_truthy_bool ⟨H5,I5,q5⟩
def TruV(K:PySem.W.Frag)(x:V)(H:Hp)(k:Bool):Prop:=
 match x with
 |.non=>k=false
 |.bl b=>k=b
 |.int i=>k=(i != 0)
 |.str y=>y.length≤sizeLine∧k=((y.length:Int) != 0)
 |.byt y=>y.size≤sizeLine∧k=((y.size:Int) != 0)
 |.ref p=>(∃xs,SqL K H p xs∧k=!xs.isEmpty)∨(∃xs,SqT K H p xs∧k=!xs.isEmpty)∨∃kvs,H p=some (.dK kvs)∧k=!kvs.isEmpty
 |_=>False
theorem isEmpty_kv(r:KV kvs vs):(!vs.isEmpty)=!kvs.isEmpty:=by
 cases r<;>rfl
theorem isEmpty_of(r:Vals xs its):(!its.toArray.isEmpty)=!xs.isEmpty:=by
 cases r<;>simp
theorem line63:(sizeLine:Nat)<2^63:=by rw[sizeLine_eq];decide
theorem tru_ok:TruR X (fun x H Q=>∃ k,TruV X.K x H k∧Q k H):=by
 intro pins s σ H x v Q I rx h
 obtain⟨k,e,q⟩:=h
 have hl:=line63
 have hs:sizeLine=16777216:=sizeLine_eq
 cases x with
 |non=>
   cases rx
   have e':k=false:=e
   subst e'
   exact truthy_none ⟨H,I,q⟩
 |bl b=>
   cases rx
   have e':k=b:=e
   subst e'
   exact wpAny_truthy_bool ⟨H,I,q⟩
 |int i=>
   obtain⟨t,rfl⟩:=rx
   have e':k=(i != 0):=e
   subst e'
   exact PySem.P.truthy_int ⟨H,I,q⟩
 |str y=>
   obtain⟨t,rfl⟩:=rx
   obtain⟨hy,e'⟩:y.length≤sizeLine∧k=((y.length:Int) != 0):=e
   subst e'
   exact PySem.P.truthy_str (by omega) ⟨H,I.tok _,q⟩
 |byt y=>
   obtain⟨t,rfl⟩:=rx
   obtain⟨hy,e'⟩:y.size≤sizeLine∧k=((y.size:Int) != 0):=e
   subst e'
   exact PySem.W.truthy_bytes (by omega) ⟨H,I.tok _,q⟩
 | ref p=>
   cases rx
   have e':(∃xs,SqL X.K H p xs∧k=!xs.isEmpty)∨(∃xs,SqT X.K H p xs∧k=!xs.isEmpty)∨∃kvs,H p=some (.dK kvs)∧k=!kvs.isEmpty:=e
   rcases e' with ⟨xs,hx,e'⟩ | ⟨xs,hx,e'⟩ | ⟨kvs,hx,e'⟩
   ·subst e'
    obtain⟨its,r,pl,hz⟩:=I.list hx
    have hlen:=r.length
    exact wpAny_truthy_list pl.isList (by simp only[List.size_toArray];omega) ⟨H,I.tok _,by rw[isEmpty_of r];exact q⟩
   ·subst e'
    obtain⟨its,r,pl,hz⟩:=I.tuple hx
    have hlen:=r.length
    exact truthy_tuple pl (by simp only[List.size_toArray];omega) ⟨H,I.tok _,by rw[isEmpty_of r];exact q⟩
   ·subst e'
    obtain⟨hz,hS,vs,r,m⟩:kvs.length≤sizeLine∧(p==sysModules)=false∧∃vs,KV kvs vs∧s.heap.DictOf (mixKind X.prog X.w) p vs:=I.hok p _ hx
    have hlen:kvs.length=vs.length:=Paired.length r
    exact wpAny_truthy_dict hS m (by omega) ⟨H,I.tok _,by rw[isEmpty_kv r];exact q⟩
 |_=>exact (show False from e).elim
theorem pt_truth(ha:PE X a ta)(he:∀whole,isTrue a X.env whole=(do let v ←whole;standAt a.pos;holding [v] (truthy v))) :
  PT X a (fun σ H Q=>ta σ H fun x H'=>∃k,TruV X.K x H' k∧Q k H'):=by
 intro pins s σ H Q I h
 exact isTrue_plain (thn (ha pins s σ H _ I h) fun v s1 ⟨x,H1,I1,r1,q1⟩=>tru_ok pins s1 σ H1 x v Q I1 r1 q1) (he _)
theorem op_add_str:OpR X (binaryOp .Add) (fun x y H Q=>∃i j,x=.str i∧y=.str j∧i.length+j.length≤sizeLine∧Q (.str (i++j)) H):=by
 intro pins s σ H x y v u Q I rx ry h
 obtain⟨i,j,rfl,rfl,hz,q⟩:=h
 obtain⟨t,rfl⟩:=rx
 obtain⟨t',rfl⟩:=ry
 exact add_str (fun t' tk=>⟨.str (i++j),H,I.tok _,⟨_,rfl⟩,q⟩) hz
theorem vals1(r:Vals [x] us):∃u,us=[u]∧RelV x u:=by
 cases r with
 |cons r1 r2=>cases r2;exact⟨_,rfl,r1⟩
theorem vals2 (r:Vals [x,y] us):∃ u w',us=[u,w']∧RelV x u∧RelV y w':=by
 cases r with
 |cons r1 r2=>
   cases r2 with
   |cons r3 r4=>cases r4;exact⟨_,_,rfl,r1,r3⟩
theorem call_max2(hc:X.calm=true):CallR X (.builtin "max") (fun xs H Q=>∃i j,xs=[.int i,.int j]∧Q (.int (if j > i then j else i)) H):=by
 intro pins s σ H xs us Q I r h
 obtain⟨i,j,rfl,q⟩:=h
 obtain⟨u,w',rfl,⟨t,rfl⟩,⟨t',rfl⟩⟩:=vals2 r
 refine max_two_ints (I.ok.hd hc) fun h' tk k=>⟨_,H,I.kept k,?_,q⟩
 by_cases hj:j > i
 ·rw[if_pos hj,if_pos hj];exact⟨_,rfl⟩
 ·rw[if_neg hj,if_neg hj];exact⟨_,rfl⟩
end
open PySem PySem.Spec PyProof.Rows
structure ObjM(h:Heap)(x dx C:Addr)(mA:Str->Option Value):Prop where
 obj:h.get? x=some (PySem.W.instObj C dx)
 ns:h.Ns1 dx mA
 ne:dx≠x
theorem lookIn_ns {h:Heap}{dx:Addr}{mA:Str->Option Value} (n:h.Ns1 dx mA):∃ od,h.get? dx=some od∧∀ name,PySem.W.lookIn name od=some (mA name):=by
 obtain⟨o,es,ep,ho,hd,hk,_,hm⟩:=n
 refine⟨o,ho,fun name=>?_⟩
 have e:=hm name
 unfold nsFind findBy at e
 rw[←Array.find?_toList] at e
 unfold PySem.W.lookIn
 rw[hd]
 dsimp only
 split
 ·rename_i y q
  rw[q] at e
  exact congrArg some e
 ·rename_i q
  rw[q] at e
  have a:es.toList.any (·.refKey)=false:=by
   rw[List.any_eq_false]
   intro y hy
   obtain⟨z,t,hkey⟩:=hk y (Array.mem_toList_iff.mp hy)
   simp[DictEntry.refKey,hkey]
  have a':¬ es.toList.any (·.refKey)=true:=by rw[a];exact Bool.false_ne_true
  rw[if_neg a']
  exact congrArg some e
theorem ObjM.look(I:ObjM h x dx C mA):∃od,PySem.W.InstAt h x (PySem.W.instObj C dx) C (some od)∧∀name,PySem.W.lookIn name od=some (mA name):=
 let ⟨od,ho,hl⟩:=lookIn_ns I.ns
 ⟨od,⟨I.obj,rfl,rfl,ho⟩,hl⟩
section
variable{prog:Program}{w:World}{A:Around}{E:Value->Shared->Prop}{s:Shared}{K:PySem.W.Frag}{x dx C f:Addr}{mA:Str->Option Value}{name:Str}{v:Value}
theorem get_map(X:K.In s.heap)(I:ObjM s.heap x dx C mA)(hg:PySem.W.plainGet K C name=true)(hh:PySem.W.hasDictIn K C=true)
  (ha:PySem.W.findIn K (.ref C) name=some none) (hv:mA name=some v) (hv':PySem.W.handedIn v=true) (h:Q v { s with toks:=s.toks+1 }) :
  wpAny (model prog w) A (getAttr (.ref x) name expr) Q E s:=by
 obtain⟨od,J,hl⟩:=I.look
 exact PySem.W.get_value X J (PySem.W.plainGet_of hg).1 (PySem.W.findObj_own hh ha rfl (by rw[hl,hv])) hv' h
theorem get_meth(X:K.In s.heap)(I:ObjM s.heap x dx C mA)(hg:PySem.W.plainGet K C name=true)
  (hf:PySem.W.findIn K (.ref C) name=some (some (.ref f))) (ht:PySem.W.isFn K (.ref f)=true) (hv:mA name=none) (h:Q (.ref f,[.ref x]) s) :
  wpAny (model prog w) A (getMethod (.ref x) name pl) Q E s:=by
 obtain⟨od,J,hl⟩:=I.look
 exact PySem.W.method_fn X J (PySem.W.plainGet_of hg).1 (PySem.W.plainGet_of hg).2 hf (beq_iff_eq.mp ht) (by show (PySem.W.lookIn name od).map (·.isSome)=some false;rw[hl,hv];rfl) h
theorem set_map(X:K.In s.heap)(I:ObjM s.heap x dx C mA)
  (hs:PySem.W.findIn K (.ref C) "__setattr__"=some (some (.builtin "object.__setattr__"))) (hp:PySem.W.plainOver K C=true) (ht:PySem.W.takerIn K C name=some none) (hh:PySem.W.hasDictIn K C=true)
  (hw:PySem.Within mA ns) (hsz:ns.length≤sizeLine)
  (h:∀h',ObjM h' x dx C (fun y=>if y=name then some v else mA y)->Heap.SameBut dx s.heap h'->Q () { s with heap:=h',toks:=s.toks+2 }) :
  wpAny (model prog w) A (setAttr (.ref x) name v) Q E s:=by
 obtain⟨od,J,hl⟩:=I.look
 refine PySem.W.set_plain X J hs (PySem.W.osa_open (s:={ s with toks:=s.toks+1 }) (r:=none) X J hp ht fun b=>?_)
 obtain⟨cd,hc,hd'⟩:=PySem.W.any_some hh
 have hx:s.heap.get? x=some ⟨.ref C,some dx,.plain,#[]⟩:=I.obj
 refine wpAny_bind (wpAny_pure (wpAny_bind (wpAny_bind (wpAny_loadPart hx (wpAny_bind (PySem.W.Looks.here (s:={ s with toks:=s.toks+1 }) (PySem.W.looks_clsIn X hc) ?_))))))
 rw[hd']
 refine wpAny_pure (a:=some dx) (wpAny_bind (wpAny_pure (wpAny_bind ?_)))
 refine wpAny_nsSet1 (s:={ s with toks:=s.toks+1 }) I.ns fun h' hn2 hs2=>?_
 obtain⟨oD,esD,epD,hoD,hdD,hcD⟩:=hn2.count (PySem.Within.cons name v hw)
 refine wpAny_bind (wpAny_lookBehind hoD (by rw[hdD];exact pastItsLine_dict (Nat.le_trans hcD (by rw[List.length_cons];omega))) ?_)
 exact wpAny_pure (h _ ⟨(hs2.2 _ (Ne.symm I.ne)).trans I.obj,hn2,I.ne⟩ hs2)
theorem make_map (X:K.In s.heap) (hm:PySem.W.makesIn K C=true)
  (hi:PySem.W.findIn K (.ref C) "__init__"=some (some (.ref f))) (hf:PySem.W.typeIn K (.ref f)=some (.type "function"))
  (h:codeAny (model prog w) (A.under (.builtin "type.__call__" ⟨.ref C::vs,kw⟩)) (.call (.ref f) ⟨.ref (s.heap.objs.size+1)::vs,kw⟩) (PySem.W.InitBack (s.heap.objs.size+1) R)
    { s with heap:=(s.heap.push PySem.W.emptyDict).push (PySem.W.instObj C s.heap.objs.size) }) :
  codeAny (model prog w) A (.call (.ref C) ⟨vs,kw⟩) R s:=by
 obtain⟨hh,g,d,t,os⟩:=s
 exact PySem.W.make_core (PySem.W.makes_of X hm) (PySem.W.looks_findIn X hi) (fun self=>PySem.W.bind_fn X self hf) (.inl rfl) h
end
def putF(f:Str)(v:V):List (Str×V)->List (Str×V)
 |[]=>[(f,v)]
 |(g,x)::r=>if g=f then (g,v)::r else (g,x)::putF f v r
theorem lookup_putF (f g:Str) (v:V):∀ fs:List (Str×V),(putF f v fs).lookup g=if g=f then some v else fs.lookup g
 | []=>by
   show List.lookup g [(f,v)]=_
   by_cases h:g=f
   ·have hb:(g==f)=true:=beq_iff_eq.mpr h
    simp only[List.lookup,hb,if_pos h]
   ·have hb:(g==f)=false:=beq_eq_false_iff_ne.mpr h
    simp only[List.lookup,hb,if_neg h]
 | (k,x)::r=>by
   have ih:=lookup_putF f g v r
   rw[show putF f v ((k,x)::r)=(if k=f then (k,v)::r else (k,x)::putF f v r) from rfl]
   by_cases hk:k=f
   ·rw[if_pos hk]
    by_cases h:g=k
    ·have hb:(g==k)=true:=beq_iff_eq.mpr h
     simp only[List.lookup,hb,if_pos (h.trans hk)]
    ·have hb:(g==k)=false:=beq_eq_false_iff_ne.mpr h
     simp only[List.lookup,hb,if_neg (fun e:g=f=>h (e.trans hk.symm))]
   ·rw[if_neg hk]
    by_cases h:g=k
    ·have hb:(g==k)=true:=beq_iff_eq.mpr h
     simp only[List.lookup,hb,if_neg (fun e:g=f=>hk (h.symm.trans e))]
    ·have hb:(g==k)=false:=beq_eq_false_iff_ne.mpr h
     simp only[List.lookup,hb]
     exact ih
theorem keys_putF (f:Str) (v:V):∀ fs:List (Str×V),f∈(putF f v fs).map (·.1)∧∀ g,g∈fs.map (·.1)->g∈(putF f v fs).map (·.1)
 |[]=>⟨by simp[putF],fun g h=>by simp at h⟩
 | (k,x)::r=>by
   obtain⟨i1,i2⟩:=keys_putF f v r
   rw[show putF f v ((k,x)::r)=(if k=f then (k,v)::r else (k,x)::putF f v r) from rfl]
   by_cases hk:k=f
   ·rw[if_pos hk]
    subst hk
    exact⟨by simp,fun g h=>by simpa using h⟩
   ·rw[if_neg hk]
    refine⟨?_,fun g h=>?_⟩
    ·rw[List.map_cons]
     exact List.mem_cons_of_mem _ i1
    ·rw[List.map_cons] at h ⊢
     rcases List.mem_cons.mp h with e | e
     ·exact List.mem_cons.mpr (.inl e)
     ·exact List.mem_cons_of_mem _ (i2 g e)
theorem length_putF (f:Str) (v:V):∀ fs:List (Str×V),(putF f v fs).length≤fs.length + 1
 |[]=>by simp[putF]
 |(k,x)::r=>by
   have ih:=length_putF f v r
   rw[show putF f v ((k,x)::r)=(if k=f then (k,v)::r else (k,x)::putF f v r) from rfl]
   by_cases hk:k=f
   ·rw[if_pos hk,List.length_cons,List.length_cons];omega
   ·rw[if_neg hk,List.length_cons,List.length_cons];omega
theorem RelO.some_of(r:RelO (some v) o):∃u,o=some u∧RelV v u:=by
 cases o with
 |none=>exact (show False from r).elim
 |some u=>exact⟨u,rfl,r⟩
theorem RelO.none_of(r:RelO none o):o=none:=by
 cases o with
 |none=>rfl
 |some u=>exact (show False from r).elim
theorem handed_of(r:RelV v u):PySem.W.handedIn u=true:=by
 cases v with
 |non=>cases (show u=Value.none from r);rfl
 |bl b=>cases (show u=Value.bool b from r);rfl
 |int i=>obtain⟨t,e⟩:=(show ∃t,u=Value.int i t from r);cases e;rfl
 |str x=>obtain⟨t,e⟩:=(show ∃t,u=Value.str x t from r);cases e;rfl
 |byt b=>obtain⟨t,e⟩:=(show ∃t,u=Value.bytes b t from r);cases e;rfl
 |flt b=>obtain⟨t,e⟩:=(show ∃t,u=Value.float b t from r);cases e;rfl
 |ref a=>cases (show u=Value.ref a from r);rfl
 |ty n=>cases (show u=Value.type n from r);rfl
section
variable{P:Program}{w:World}{H H':Hp}{h h':Heap}{a C dx:Addr}{fs fs':List (Str×V)}
theorem ins_get(hok:HOk P w H h)(e:H a=some (.ins C dx fs)):∃mA,ObjM h a dx C mA∧(∀f,RelO (fs.lookup f) (mA f))∧PySem.Within mA (fs.map (·.1))∧fs.length≤1000∧H dx=some (.own a):=by
 obtain⟨d,z,ne,ob,mA,n,r,q⟩:=(show ObjOk P w H h a (.ins C dx fs) from hok a _ e)
 exact⟨mA,⟨ob,n,ne⟩,r,q,z,d⟩
end
structure Cls(K:PySem.W.Frag)(C:Addr):Prop where
 pg:PySem.W.plainGet K C Str.empty=true
 hd:PySem.W.hasDictIn K C=true
 po:PySem.W.plainOver K C=true
 sa:PySem.W.findIn K (.ref C) "__setattr__"=some (some (.builtin "object.__setattr__"))
theorem Cls.get{K:PySem.W.Frag}{C:Addr}(c:Cls K C)(f:Str):PySem.W.plainGet K C f=true:=c.pg
def NoAttr(K:PySem.W.Frag)(C:Addr)(f:Str):Prop:=PySem.W.findIn K (.ref C) f=some none
theorem NoAttr.taker{K:PySem.W.Frag}{C:Addr}{f:Str}(n:NoAttr K C f):PySem.W.takerIn K C f=some none:=by
 unfold PySem.W.takerIn
 rw[show PySem.W.findIn K (.ref C) f=some none from n]
 rfl
structure Meth(K:PySem.W.Frag)(C:Addr)(m:Str)(f:Addr):Prop where
 at_:PySem.W.findIn K (.ref C) m=some (some (.ref f))
 fn:PySem.W.isFn K (.ref f)=true
 kp:PySem.W.keepIn K (.ref f)=true
section
variable{X:Cx}{pins:List (Addr×Obj)}{σ:St}{H:Hp}{s:Shared}{a C dx:Addr}{fs:List (Str×V)}{f:Str}{v:V}{A:Around}{E:Value->Shared->Prop}
theorem getattr_ok(I:Inv X pins σ H s)(e:H a=some (.ins C dx fs))(c:Cls X.K C)(n:NoAttr X.K C f)(l:fs.lookup f=some v)
  (h:∀u s',Inv X pins σ H s'->RelV v u->Q u s'):wpAny (model X.prog X.w) A (getAttr (.ref a) f b) Q E s:=by
 obtain⟨mA,O,r,_,_,_⟩:=ins_get I.hok e
 obtain⟨u,hu,ru⟩:=RelO.some_of (v:=v) (o:=mA f) (by rw[←l];exact r f)
 exact get_map I.kIn O (c.get f) c.hd n hu (handed_of ru) (h u _ (I.tok _) ru)
theorem getmeth_ok(I:Inv X pins σ H s)(e:H a=some (.ins C dx fs))(c:Cls X.K C)(k:Meth X.K C m g)(l:fs.lookup m=none)
  (h:Q (.ref g,[.ref a]) s):wpAny (model X.prog X.w) A (getMethod (.ref a) m pl) Q E s:=by
 obtain⟨mA,O,r,_,_,_⟩:=ins_get I.hok e
 have hn:mA m=none:=RelO.none_of (by rw[←l];exact r m)
 exact get_meth I.kIn O (c.get m) k.at_ k.fn hn h
theorem setattr_ok (I:Inv X pins σ H s) (e:H a=some (.ins C dx fs)) (c:Cls X.K C) (n:NoAttr X.K C f) (hl:fs.length<1000) (ry:RelV y u)
  (h:∀s',Inv X pins σ (upd H a (.ins C dx (putF f y fs))) s'->Q () s'):wpAny (model X.prog X.w) A (setAttr (.ref a) f u) Q E s:=by
 obtain⟨mA,O,r,wi,_,ho⟩:=ins_get I.hok e
 have hz:(fs.map (·.1)).length≤sizeLine:=by rw[List.length_map,sizeLine_eq];omega
 refine set_map I.kIn O c.sa c.po n.taker c.hd wi hz fun h' O' sb=>h _ ?_
 have hd:∃o,h'.get? dx=some o:=let ⟨o,_,_,e',_⟩:=O'.ns;⟨o,e'⟩
 refine I.write (x:=a) (e:=dx) (by rw[e];exact True.intro) (.inr ho) (fun b q hb z=>(sb.2 b hb).trans z) hd ?_
 refine⟨by rw[upd_ne O.ne];exact ho,?_,O.ne,O'.obj,_,O'.ns,fun g=>?_,fun g hg=>?_⟩
 ·have:=length_putF f y fs;omega
 ·show RelO ((putF f y fs).lookup g) (if g=f then some u else mA g)
  rw[lookup_putF]
  by_cases q:g=f
  ·rw[if_pos q,if_pos q];exact ry
  ·rw[if_neg q,if_neg q];exact r g
 ·by_cases q:g=f
  ·rw[q];exact (keys_putF f y fs).1
  ·refine (keys_putF f y fs).2 g (wi g fun z=>hg ?_)
   show (if g=f then some u else mA g)=none
   rw[if_neg q];exact z
theorem Inv.made(I:Inv X pins σ H s):Inv X pins σ (upd (upd H s.heap.objs.size (.own (s.heap.objs.size+1))) (s.heap.objs.size+1) (.ins C s.heap.objs.size []))
  { s with heap:=(s.heap.push PySem.W.emptyDict).push (PySem.W.instObj C s.heap.objs.size) }:=by
 have e1:(s.heap.push PySem.W.emptyDict).get? s.heap.objs.size=some PySem.W.emptyDict:=Heap.get?_push_size s.heap rfl
 have e2:((s.heap.push PySem.W.emptyDict).push (PySem.W.instObj C s.heap.objs.size)).get? (s.heap.objs.size+1)=some (PySem.W.instObj C s.heap.objs.size):=by
  have:=Heap.get?_push_size (s.heap.push PySem.W.emptyDict) (o:=PySem.W.instObj C s.heap.objs.size) rfl
  rwa [Heap.size_push] at this
 have e3:(s.heap.push PySem.W.emptyDict).Ns s.heap.objs.size (fun _=>none):=⟨PySem.W.emptyDict,#[],_,e1,rfl,(fun e he=>absurd he (by simp)),fun _=>rfl⟩
 have I1:=I.laid (a:=s.heap.objs.size) (o:=.own (s.heap.objs.size+1)) (h':=s.heap.push PySem.W.emptyDict) (t':=s.toks) (fun b u q=>Heap.get?_push_of_some _ q) (Nat.le_refl _) ⟨_,e1⟩
 refine I1.laid (a:=s.heap.objs.size+1) (o:=.ins C s.heap.objs.size []) (t':=s.toks) (fun b u q=>Heap.get?_push_of_some _ q) (Nat.le_of_eq (Heap.size_push _ _)) ?_
 have ne:s.heap.objs.size≠s.heap.objs.size+1:=Nat.ne_of_lt (Nat.lt_succ_self _)
 refine⟨by rw[upd_ne ne,upd_same],Nat.zero_le _,ne,e2,fun _=>none,(Heap.Ns1.of_empty e3).at fun o q=>Heap.get?_push_of_some _ q,fun _=>True.intro,fun y hy=>absurd rfl hy⟩
theorem attr_of(hb:attributeBase e f env (eval e env)=eval e env)
  (h:wpAny (model prog w) A (eval e env) (fun o s₁=>wpAny (model prog w) A (getAttr o f true) Q E s₁) E s):wpAny (model prog w) A (eval (.Attribute e f pos) env) Q E s:=
 Attribute_any_ h (by rw[arm_eval_Attribute,hb])
end
def tFld(K:PySem.W.Frag)(ta:TE)(f:Str):TE:=fun σ H Q=>ta σ H fun x H1=>∃a C dx fs v,x=.ref a∧H1 a=some (.ins C dx fs)∧Cls K C∧NoAttr K C f∧fs.lookup f=some v∧Q v H1
def sFld(K:PySem.W.Frag)(ta tv:TE)(f:Str):TS:=fun D σ H=>tv σ H fun y H1=>ta σ H1 fun x H2=>∃a C dx fs,x=.ref a∧H2 a=some (.ins C dx fs)∧Cls K C∧NoAttr K C f∧fs.length<1000 ∧
 D.nx σ (upd H2 a (.ins C dx (putF f y fs)))
section
variable{X:Cx}{o e value:Expr}{f:Str}{pos pos' tpos:Pos}{ta tv:TE}
theorem pe_fld(he:PE X e ta)(hb:attributeBase e f X.env (eval e X.env)=eval e X.env):PE X (.Attribute e f pos) (tFld X.K ta f):=by
 intro pins s σ H Q I h
 refine attr_of hb (thn (he pins s σ H _ I h) fun u s1 ⟨x,H1,I1,rx,a,C,dx,fs,v,ex,ea,c,n,l,q⟩=>?_)
 subst ex
 obtain rfl:u=Value.ref a:=rx
 exact getattr_ok I1 ea c n l fun u' s2 I2 ru=>⟨v,H1,I2,ru,q⟩
theorem ps_fld(ha:PE X o ta)(hv:PE X value tv)(hs:swapsWith value (some (.Attribute o f pos')) pos.line X.env=pure false):PS X (.Assign [.Attribute o f pos'] value pos) (sFld X.K ta tv f):=by
 intro pins s σ H D I h
 refine plainObj_wpAny_Assign_Attribute (thn (hv pins s σ H _ I h) fun u s1 ⟨y,H1,I1,ry,q⟩=>thn (ha pins s1 σ H1 _ I1 q) fun ov s2 ⟨x,H2,I2,rx,a,C,dx,fs,ex,ea,c,n,l,q2⟩=>?_) hs
 subst ex
 obtain rfl:ov=Value.ref a:=rx
 exact setattr_ok I2 ea c n l ry fun s3 I3=>⟨σ,_,I3,q2⟩
theorem methcall_of (he:PE X e te) (I:Inv X pins σ H s)
  (h:te σ H fun x H1=>∃a C dx fs g,x=.ref a∧H1 a=some (.ins C dx fs)∧Cls X.K C∧Meth X.K C m g∧fs.lookup m=none ∧
    ∀s1,Inv X pins σ H1 s1->wpAny (model X.prog X.w) X.A (callWith pos (.ref g) [.ref a] (backTo pos (starEach args X.env)) (backToKw pos (keywordEach [] X.env))) Q X.xe s1)
  (ht:eval (.Call (.Attribute e m apos) args [] pos) X.env=(do
    let ov ←eval e X.env
    standAt apos.atName
    let (f,first) ←holding [ov] (getMethod ov m pl)
    callWith pos f first (backTo pos (starEach args X.env)) (backToKw pos (keywordEach [] X.env)))) :
  wpAny (model X.prog X.w) X.A (eval (.Call (.Attribute e m apos) args [] pos) X.env) Q X.xe s:=by
 refine PySem.W.methodCall_KW (pl:=pl) (thn (he pins s σ H _ I h) fun u s1 ⟨x,H1,I1,rx,a,C,dx,fs,g,ex,ea,c,k,l,q⟩=>?_) ht
 subst ex
 obtain rfl:u=Value.ref a:=rx
 exact getmeth_ok I1 ea c k l (q s1 I1)
end
section
variable{X:Cx}{pins:List (Addr×Obj)}{σ:St}{H:Hp}{s:Shared}{A:Around}{E:Value->Shared->Prop}{Q:Value->Shared->Prop}{c:Value}{b:Bool}
inductive TyOf (K:PySem.W.Frag) (H:Hp):V->Value->Prop where
 |non:TyOf K H .non (.type "NoneType")
 |bl (x:Bool):TyOf K H (.bl x) (.type "bool")
 |int (i:Int):TyOf K H (.int i) (.type "int")
 |str (x:Str):TyOf K H (.str x) (.type "str")
 |flt (x:UInt64):TyOf K H (.flt x) (.type "float")
 |lst {a:Addr}{xs:List V} (e:H a=some (.lst xs)):TyOf K H (.ref a) (.type "list")
 |frz {a:Addr}{o:Obj}{xs:List V} (e:H a=some (.frz o (.lst xs))):TyOf K H (.ref a) (.type "list")
 |tup {a:Addr}{xs:List V} (e:H a=some (.tup xs)):TyOf K H (.ref a) (.type "tuple")
 |dK {a:Addr}{kvs:List (Key×V)} (e:H a=some (.dK kvs)):TyOf K H (.ref a) (.type "dict")
 |dT {a:Addr}{kvs:List (List Key×V)} (e:H a=some (.dT kvs)):TyOf K H (.ref a) (.type "dict")
 |ins {a C dx:Addr}{fs:List (Str×V)} (e:H a=some (.ins C dx fs)) (cl:Cls K C) (ha:PySem.W.findIn K (.ref C) "__class__"=some (some (.builtin "object.__class__")))
   (hn:PySem.W.specialIn K (.builtin "object.__class__") "__get__"=some (some (.builtin "getset_descriptor.__get__"))) (htk:PySem.W.takesIn K (.builtin "object.__class__")=some true)
   (hm:PySem.W.mroIn K C (.type "object")=some true):TyOf K H (.ref a) (.ref C)
theorem isinst_ok (I:Inv X pins σ H s) (rx:RelV x u) (ty:TyOf X.K H x t) (e:PySem.W.kitOne X.K t c=some b) (h:∀ tk,Q (.bool b) { s with toks:=tk }) :
  wpAny (model X.prog X.w) A (call (.builtin "isinstance") [u,c]) Q E s:=by
 cases ty with
 |non=>cases (show u=Value.none from rx);exact PySem.W.kia_one PySem.W.kitx_none I.kIn True.intro e (fun z=>nomatch z) h
 |bl y=>cases (show u=Value.bool y from rx);exact PySem.W.kia_one PySem.W.kitx_bool I.kIn True.intro e (fun z=>nomatch z) h
 |int i=>obtain⟨t,q⟩:=(show ∃t,u=Value.int i t from rx);cases q;exact PySem.W.kia_one PySem.W.kitx_int I.kIn True.intro e (fun z=>nomatch z) h
 |str y=>obtain⟨t,q⟩:=(show ∃t,u=Value.str y t from rx);cases q;exact PySem.W.kia_one PySem.W.kitx_str I.kIn True.intro e (fun z=>nomatch z) h
 |flt y=>obtain⟨t,q⟩:=(show ∃t,u=Value.float y t from rx);cases q;exact PySem.W.kia_one PySem.W.kitx_float I.kIn True.intro e (fun z=>nomatch z) h
 | @lst a xs ea=>
   cases (show u=Value.ref a from rx)
   obtain⟨_,_,n,_,h1⟩:=(show ObjOk X.prog X.w H s.heap a (.lst xs) from I.hok a _ ea)
   exact PySem.W.kia_one PySem.W.kitx_list I.kIn ⟨_,h1,rfl⟩ e (fun z=>nomatch z) h
 | @frz a ob xs ea=>
   cases (show u=Value.ref a from rx)
   obtain⟨_,_,_,n,_,h1⟩:=(show ObjOk X.prog X.w H s.heap a (.frz ob (.lst xs)) from I.hok a _ ea)
   exact PySem.W.kia_one PySem.W.kitx_list I.kIn ⟨_,h1,rfl⟩ e (fun z=>nomatch z) h
 | @tup a xs ea=>
   cases (show u=Value.ref a from rx)
   obtain⟨_,_,_,p⟩:=(show ObjOk X.prog X.w H s.heap a (.tup xs) from I.hok a _ ea)
   obtain⟨o,h1,h2,_⟩:=p
   exact PySem.W.kia_one PySem.W.kitx_tuple I.kIn ⟨o,h1,h2⟩ e (fun z=>nomatch z) h
 | @dK a kvs ea=>
   cases (show u=Value.ref a from rx)
   obtain⟨_,_,vs,_,p⟩:=(show ObjOk X.prog X.w H s.heap a (.dK kvs) from I.hok a _ ea)
   obtain⟨o,es,ep,h1,h2,_⟩:=p
   exact PySem.W.kia_one PySem.W.kitx_dict I.kIn ⟨o,h1,h2.1⟩ e (fun z=>nomatch z) h
 | @dT a kvs ea=>
   cases (show u=Value.ref a from rx)
   obtain⟨_,_,xs,_,o,es,ep,h1,h2,_⟩:=(show ObjOk X.prog X.w H s.heap a (.dT kvs) from I.hok a _ ea)
   exact PySem.W.kia_one PySem.W.kitx_dict I.kIn ⟨o,h1,h2.1⟩ e (fun z=>nomatch z) h
 | @ins a C dx fs ea cl ha hn htk hm=>
   cases (show u=Value.ref a from rx)
   obtain⟨mA,O,_⟩:=ins_get I.hok ea
   obtain⟨od,J,_⟩:=O.look
   exact PySem.W.kia_one (PySem.W.kitx_own (cl.get _) cl.hd ha hn htk hm) I.kIn J e (fun z=>nomatch z) h
end
open PySem PySem.Spec PyProof.Rows
structure Room(k:Nat)(A:Around):Prop where
 hd:A.handled=none
 dp:A.depth+3*k+5<recursionLimit
 un:A.units+16*k+200<cLine
 gd:A.guards=some []
theorem Room.mono(r:Room k A)(h:j≤k):Room j A:=⟨r.hd,by have:=r.dp;omega,by have:=r.un;omega,r.gd⟩
theorem Room.deeper(r:Room (k+1) A)(env:Env):Room k (A.deeper env):=
 ⟨r.hd,by have:=r.dp;show A.depth+1+3*k+5<_;omega,by have:=r.un;show A.units+3+16*k+200<_;omega,r.gd⟩
theorem Room.in1(r:Room (k+1) A):Room k A.in1:=
 ⟨r.hd,by have:=r.dp;show A.depth+3*k+5<_;omega,by have:=r.un;show A.units+1+16*k+200<_;omega,r.gd⟩
theorem make_depth{A:Around}{C:Addr}{us:List Value}{kw:List (Str×Value)}:(A.under (.builtin "type.__call__" ⟨.ref C::us,kw⟩)).depth=A.depth+1:=by
 first | rfl | simp[Around.under,Code.weight,Code.isCreation,Code.isGuard,Code.isCaller,Code.frames,Code.isFrame,guardIds]
theorem make_units{A:Around}{C:Addr}{us:List Value}{kw:List (Str×Value)}:(A.under (.builtin "type.__call__" ⟨.ref C::us,kw⟩)).units=A.units+1:=by
 first | rfl | simp[Around.under,Code.cUnits,Code.frames,Code.isFrame]
theorem yp{A:Around}{C:Addr}{us:List Value}{kw:List (Str×Value)}:(A.under (.builtin "type.__call__" ⟨.ref C::us,kw⟩)).guards=A.guards:=by
 simp[Around.under,Code.guards,Code.isGuard,guardIds,pushGuards]
theorem Room.make(r:Room (k+1) A)(C:Addr)(us:List Value)(kw:List (Str×Value)):Room k (A.under (.builtin "type.__call__" ⟨.ref C::us,kw⟩)):=
 ⟨r.hd,by have:=r.dp;rw[make_depth];omega,by have:=r.un;rw[make_units];omega,by first | (rw[yp];exact r.gd) | exact r.gd⟩
theorem Room.depth(r:Room k A):A.depth<recursionLimit:=by have:=r.dp;omega
theorem Room.units(r:Room k A):A.units+64<cLine:=by have:=r.un;omega
def tNil:TA:=fun _ H Q=>Q [] H
def tCons(ta:TE)(tr:TA):TA:=fun σ H Q=>ta σ H fun x H1=>tr σ H1 fun xs H2=>Q (x::xs) H2
section
variable{X:Cx}{e:Expr}{es:List Expr}{te:TE}{t:TA}{pos:Pos}
theorem pa_nil:PA X [] tNil:=fun _ _ _ _ H Q I h=>Calls.spliced_nil ⟨[],H,I,.nil,h⟩
theorem pa_cons(ha:PE X e te)(hr:PA X es t)(hs:starEach (e::es) X.env=(false,eval e X.env)::starEach es X.env:=by rfl):PA X (e::es) (tCons te t):=by
 intro pos pins s σ H Q I h
 rw[hs]
 show wpAny _ _ (spliced ((false,eval e X.env)::backTo pos (starEach es X.env))) _ _ s
 refine Calls.spliced_cons (thn (ha pins s σ H _ I h) fun u s1 ⟨x,H1,I1,r1,q1⟩=>?_)
 exact thn (hr pos pins s1 σ H1 _ I1 q1) fun us s2 ⟨xs,H2,I2,r2,q2⟩=>⟨x::xs,H2,I2,.cons r1 r2,q2⟩
def tTup(t:TA):TE:=fun σ H Q=>t σ H fun xs H1=>xs.length≤sizeLine∧∀p,H1 p=none->Q (.ref p) (upd H1 p (.tup xs))
def tLst(t:TA):TE:=fun σ H Q=>t σ H fun xs H1=>xs.length≤sizeLine∧∀p,H1 p=none->Q (.ref p) (upd H1 p (.lst xs))
theorem pe_tup{x1}(h:PA X es t):PE X (.Tuple es x1 pos) (tTup t):=by
 intro pins s σ H Q I hq
 refine wpAny_Tuple_spliced (thn (h pos pins s σ H _ I hq) fun us s1 ⟨xs,H1,I1,r,z,q⟩=>⟨by rw[←r.length];exact z,?_⟩)
 have hf:H1 s1.heap.objs.size=none:=I1.hok.fresh (Nat.le_refl _)
 refine⟨.ref s1.heap.objs.size,upd H1 s1.heap.objs.size (.tup xs),I1.laid (t':=s1.toks) (fun b u e=>Heap.get?_push_of_some _ e) (Nat.le_refl _) ?_,rfl,q _ hf⟩
 exact⟨z,us,r,⟨_,Heap.get?_push_size _ rfl,rfl,_,rfl⟩⟩
theorem pe_lst(h:PA X es t):PE X (.List es pos) (tLst t):=by
 intro pins s σ H Q I hq
 refine wpAny_List_spliced (thn (h pos pins s σ H _ I hq) fun us s1 ⟨xs,H1,I1,r,z,q⟩=>⟨by rw[←r.length];exact z,?_⟩)
 have hf:H1 s1.heap.objs.size=none:=I1.hok.fresh (Nat.le_refl _)
 refine⟨.ref s1.heap.objs.size,upd H1 s1.heap.objs.size (.lst xs),I1.laid (t':=s1.toks) (fun b u e=>Heap.get?_push_of_some _ e) (Nat.le_refl _) ?_,rfl,q _ hf⟩
 exact⟨z,us,0,r,Heap.get?_push_size _ rfl⟩
end
abbrev Sp:=List V->Hp->VK->XK->Prop
abbrev CXT:=List Env->Hp->Shared->XK->Value->Shared->Prop
structure Env0(P:Program)(w:World)(K:PySem.W.Frag)(mg:Str->Option Value)(base:Heap)(A:Around)(outer:List Env)(s:Shared)(H:Hp):Prop where
 frames:A.frames=some outer
 mod:Mod K mg base
 bs:∀b o,base.get? b=some o->s.heap.get? b=some o∧H b=none
 bsz:base.objs.size≤s.heap.objs.size
 funs:s.heap.FunFrames base outer
 frf:∀b∈frs outer,H b=none
 hok:HOk P w H s.heap
 bare:AllBare s.gens
def CE(outer:List Env)(P:Program)(w:World)(H:Hp)(s:Shared)(Q:VK)(u:Value)(s':Shared):Prop:=
 ∃v H',s'.os=s.os∧AllBare s'.gens∧Un (frs outer) [] H H' s.heap s'.heap∧HOk P w H' s'.heap∧RelV v u∧Q v H'
def CR(CX:CXT)(outer:List Env)(P:Program)(w:World)(H:Hp)(s:Shared)(Q:VK)(E:XK)(r:Result)(s':Shared):Prop:=
 match r with
 |.ok (.ret u)=>CE outer P w H s Q u s'
 |.ok _=>False
 |.error e=>CX outer H s E e s'
structure FnOk(P:Program)(w:World)(K:PySem.W.Frag)(mg:Str->Option Value)(base:Heap)(CX:CXT)(k:Nat)(f:Addr)(fd:FuncData)(ps:List Str)(sp:Sp):Prop where
 len:∀vs H Q E,sp vs H Q E->vs.length=ps.length
 run:∀(A:Around) (outer:List Env) (s:Shared) (H:Hp) (args:Args) (us:List Value) (vs:List V) (Q:VK) (E:XK),Room k A->Env0 P w K mg base A outer s H->BindsTo s fd args (ps.zip us)->Vals vs us->sp vs H Q E->
  codeAny (model P w) A (.call (.ref f) args) (CR CX outer P w H s Q E) s
theorem FnOk.mono{P:Program}{w:World}{K:PySem.W.Frag}{mg:Str->Option Value}{base:Heap}{CX:CXT}{j k:Nat}{f:Addr}{fd:FuncData}{ps:List Str}{sp:Sp}(F:FnOk P w K mg base CX j f fd ps sp)(h:j≤k) :
  FnOk P w K mg base CX k f fd ps sp:=⟨F.len,fun A outer s H args us vs Q E hr=>F.run A outer s H args us vs Q E (hr.mono h)⟩
theorem FnOk.imp{P:Program}{w:World}{K:PySem.W.Frag}{mg:Str->Option Value}{base:Heap}{CX:CXT}{k:Nat}{f:Addr}{fd:FuncData}{ps:List Str}{sp sp':Sp}(F:FnOk P w K mg base CX k f fd ps sp)
  (h:∀vs H Q E,sp' vs H Q E->sp vs H Q E):FnOk P w K mg base CX k f fd ps sp':=
 ⟨fun vs H Q E q=>F.len vs H Q E (h _ _ _ _ q),fun A outer s H args us vs Q E hr he hb hv hs=>F.run A outer s H args us vs Q E hr he hb hv (h _ _ _ _ hs)⟩
theorem Env0.make{P:Program}{w:World}{K:PySem.W.Frag}{mg:Str->Option Value}{base:Heap}{A:Around}{outer:List Env}{s:Shared}{H:Hp}(e:Env0 P w K mg base A outer s H)(C:Addr)(us:List Value)(kw:List (Str×Value)) :
  Env0 P w K mg base (A.under (.builtin "type.__call__" ⟨.ref C::us,kw⟩)) outer s H:=⟨by first | exact e.frames | (simpa[Around.under,Code.envs,Code.isFrame,pushEnvs] using e.frames),e.mod,e.bs,e.bsz,e.funs,e.frf,e.hok,e.bare⟩
section
variable{X:Cx}{pins:List (Addr×Obj)}{σ:St}{H:Hp}{s s':Shared}
theorem Inv.env0(I:Inv X pins σ H s):Env0 X.prog X.w X.K X.mg X.base X.A X.stack s H:=
 ⟨I.ok.frames,I.ok.mod,I.bs,Nat.le_trans I.ok.bsz I.sz,I.stack,I.stkFree,I.hok,I.bare⟩
theorem Inv.after(I:Inv X pins σ H s)(h:CE X.stack X.prog X.w H s Q u s'):EP X pins σ Q u s':=by
 obtain⟨v,H',os,bare,un,hok,r,q⟩:=h
 obtain⟨hh,g,d,t,os'⟩:=s'
 obtain rfl:os'=s.os:=os
 exact⟨v,H',I.call (h':=hh) (g':=g) (d':=d) (t':=t) (ch:=[]) un hok bare (fun b z=>absurd z (by simp)),r,q⟩
end
def tCall(sp:Sp)(dvs:List V)(E:XK)(t:TA):TE:=fun σ H Q=>t σ H fun vs H1=>sp (vs++dvs) H1 Q E
def tMeth(C:Addr)(m:Str)(sp:Sp)(dvs:List V)(E:XK)(ta:TE)(t:TA):TE:=fun σ H Q=>ta σ H fun x H1=>∃a dx fs,x=.ref a∧H1 a=some (.ins C dx fs)∧fs.lookup m=none ∧
 t σ H1 fun vs H2=>sp (x::(vs++dvs)) H2 Q E
def tMake(C:Addr)(sp:Sp)(dvs:List V)(E:XK)(t:TA):TE:=fun σ H Q=>t σ H fun vs H1=>∀x dx,H1 x=none->H1 dx=none->dx≠x->
 sp (.ref x::(vs++dvs)) (upd (upd H1 dx (.own x)) x (.ins C dx [])) (fun v H2=>v=.non∧Q (.ref x) H2) E
def Binds(K:PySem.W.Frag)(fd:FuncData)(ps:List Str)(ds:List Value):Prop:=
 ∀(s:Shared) (us:List Value),K.In s.heap->(us++ds).length=ps.length->BindsTo s fd ⟨us,[]⟩ (ps.zip (us++ds))
theorem Binds.all{K:PySem.W.Frag}{fd:FuncData}{ps:List Str}(h:∀us:List Value,us.length=ps.length->bindArgs fd ⟨us,[]⟩=pure (ps.zip us)):Binds K fd ps []:=fun s us _ hl=>by
 rw[List.append_nil] at hl ⊢
 exact .of_eq (h us hl)
def Passes(CX:CXT)(X:Cx)(E:XK):Prop:=∀(pins:List (Addr×Obj)) (σ:St) (H:Hp) (s:Shared) (e:Value) (s':Shared),Inv X pins σ H s->CX X.stack H s E e s'->X.xe e s'
section
variable{X:Cx}{CX:CXT}{k:Nat}{f C:Addr}{fd:FuncData}{ps:List Str}{sp:Sp}{dvs:List V}{ds:List Value}{E:XK}{x m:Str}{p pos apos:Pos}{e o:Expr}{es:List Expr}{ta:TE}{t:TA}
theorem run_fn (F:FnOk X.prog X.w X.K X.mg X.base CX k f fd ps sp) (hr:Room k X.A) (hb:Binds X.K fd ps ds) (hd:Vals dvs ds) (hx:Passes CX X E)
  (I:Inv X pins σ H s) (r:Vals vs us) (h:sp (vs++dvs) H Q E):wpAny (model X.prog X.w) X.A (call (.ref f) us) (EP X pins σ Q) X.xe s:=by
 have r2:Vals (vs++dvs) (us++ds):=r.append hd
 have hl:(us++ds).length=ps.length:=by rw[←r2.length];exact F.len _ _ _ _ h
 refine wpAny_call (codeAny_mono (F.run X.A X.stack s H ⟨us,[]⟩ (us++ds) (vs++dvs) Q E hr I.env0 (hb s us I.kIn hl) r2 h) fun r s' hq=>?_)
 cases r with
 |error e=>exact hx pins σ H s e s' I hq
 |ok fl=>
   cases fl with
   |ret u=>exact I.after hq
   |next=>exact False.elim hq
   |brk=>exact False.elim hq
   |cont=>exact False.elim hq
theorem pe_call(F:FnOk X.prog X.w X.K X.mg X.base CX k f fd ps sp)(hr:Room k X.A)(hg:Gl X x)(hm:X.mg x=some (.ref f))(hk:PySem.W.keepIn X.K (.ref f)=true)(hb:Binds X.K fd ps ds)(hd:Vals dvs ds)(hx:Passes CX X E)
  (ha:PA X (e::es) t) (hdb:(x==("__debug__":Str))=false:=by decide) (he:starEach (e::es) X.env=(false,eval e X.env)::starEach es X.env:=by rfl) (hpl:(backTo pos (starEach es X.env)).any (·.1)=false:=by rfl) :
  PE X (.Call (.Name x p) (e::es) [] pos) (tCall sp dvs E t):=by
 intro pins s σ H Q I h
 refine wpAny_Call_Name_kw (ld_glob I hg hm ?_ hdb)
 refine PySem.W.callWith_K (h₀:=X.base) I.ok.mod.kin hk (thn (ha pos pins s σ H _ I h) fun us s1 ⟨vs,H1,I1,r,q⟩=>⟨I1.kIn,?_⟩) he hpl
 exact run_fn F hr hb hd hx I1 r q
theorem pe_meth (he:PE X o ta) (c:Cls X.K C) (hm:Meth X.K C m f) (F:FnOk X.prog X.w X.K X.mg X.base CX k f fd ps sp) (hr:Room k X.A) (hb:Binds X.K fd ps ds) (hd:Vals dvs ds) (hx:Passes CX X E) (ha:PA X (e::es) t)
  (hst:starEach (e::es) X.env=(false,eval e X.env)::starEach es X.env:=by rfl) (hpl:(backTo pos (starEach es X.env)).any (·.1)=false:=by rfl)
  (ht:eval (.Call (.Attribute o m apos) (e::es) [] pos) X.env=(do
    let ov ←eval o X.env
    standAt apos.atName
    let (f,first) ←holding [ov] (getMethod ov m pl)
    callWith pos f first (backTo pos (starEach (e::es) X.env)) (backToKw pos (keywordEach [] X.env))):=by rfl) :
  PE X (.Call (.Attribute o m apos) (e::es) [] pos) (tMeth C m sp dvs E ta t):=by
 intro pins s σ H Q I h
 refine PySem.W.methodCall_KW (pl:=pl) (thn (he pins s σ H _ I h) fun u s1 ⟨x,H1,I1,rx,a,dx,fs,ex,ea,l,q⟩=>?_) ht
 subst ex
 obtain rfl:u=Value.ref a:=rx
 refine getmeth_ok I1 ea c hm l ?_
 refine PySem.W.callWith_K (first:=[.ref a]) (h₀:=X.base) I.ok.mod.kin hm.kp (thn (ha pos pins s1 σ H1 _ I1 q) fun us s2 ⟨vs,H2,I2,r,q2⟩=>⟨I2.kIn,?_⟩) hst hpl
 exact run_fn (us:=.ref a::us) (vs:=.ref a::vs) F hr hb hd hx I2 (.cons rfl r) q2
theorem pe_meth0 (he:PE X o ta) (c:Cls X.K C) (hm:Meth X.K C m f) (F:FnOk X.prog X.w X.K X.mg X.base CX k f fd ps sp) (hr:Room k X.A) (hb:Binds X.K fd ps ds) (hd:Vals dvs ds) (hx:Passes CX X E)
  (ht:eval (.Call (.Attribute o m apos) [] [] pos) X.env=(do
    let ov ←eval o X.env
    standAt apos.atName
    let (f,first) ←holding [ov] (getMethod ov m pl)
    callWith pos f first (backTo pos (starEach [] X.env)) (backToKw pos (keywordEach [] X.env))):=by rfl) :
  PE X (.Call (.Attribute o m apos) [] [] pos) (tMeth C m sp dvs E ta tNil):=by
 intro pins s σ H Q I h
 refine PySem.W.methodCall_KW (pl:=pl) (thn (he pins s σ H _ I h) fun u s1 ⟨x,H1,I1,rx,a,dx,fs,ex,ea,l,q⟩=>?_) ht
 subst ex
 obtain rfl:u=Value.ref a:=rx
 refine getmeth_ok I1 ea c hm l ?_
 exact PySem.W.callWith_K0 (first:=[.ref a]) I1.kIn hm.kp (run_fn (us:=[.ref a]) (vs:=[.ref a]) F hr hb hd hx I1 (.cons rfl .nil) q)
structure Mk(K:PySem.W.Frag)(C f:Addr):Prop where
 makes:PySem.W.makesIn K C=true
 init:PySem.W.findIn K (.ref C) "__init__"=some (some (.ref f))
 fn:PySem.W.isFn K (.ref f)=true
 kp:PySem.W.keepIn K (.ref C)=true
theorem run_make (M:Mk X.K C f) (F:FnOk X.prog X.w X.K X.mg X.base CX k f fd ps sp) (hr:Room (k + 1) X.A) (hb:Binds X.K fd ps ds) (hd:Vals dvs ds)
  (hx:Passes CX X E) (I:Inv X pins σ H s) (r:Vals vs us)
  (h:∀x dx,H x=none->H dx=none->dx≠x->sp (.ref x::(vs++dvs)) (upd (upd H dx (.own x)) x (.ins C dx [])) (fun v H2=>v=.non∧Q (.ref x) H2) E) :
  wpAny (model X.prog X.w) X.A (call (.ref C) us) (EP X pins σ Q) X.xe s:=by
 have hq:=h (s.heap.objs.size+1) s.heap.objs.size (I.hok.fresh (Nat.le_succ _)) (I.hok.fresh (Nat.le_refl _)) (Nat.ne_of_lt (Nat.lt_succ_self _))
 have I2:=Inv.made (C:=C) I
 have r2:Vals (V.ref (s.heap.objs.size+1)::(vs++dvs)) (Value.ref (s.heap.objs.size+1)::(us++ds)):=.cons rfl (r.append hd)
 have hl:(Value.ref (s.heap.objs.size+1)::us++ds).length=ps.length:=by
  have e:=r2.length
  rw[F.len _ _ _ _ hq] at e
  exact e.symm
 refine wpAny_call (make_map (f:=f) I.kIn M.makes M.init (beq_iff_eq.mp M.fn) (codeAny_mono (F.run _ X.stack _ _ ⟨Value.ref (s.heap.objs.size+1)::us,[]⟩ (Value.ref (s.heap.objs.size+1)::(us++ds)) _ _ E (hr.make C us [])
  (I2.env0.make C us []) (hb _ (Value.ref (s.heap.objs.size+1)::us) I2.kIn hl) r2 hq) fun r s' hq'=>?_))
 cases r with
 |error e=>exact hx pins σ _ _ e s' I2 hq'
 | ok fl=>
   cases fl with
   |ret u=>
     obtain⟨v,H',I3,rv,ev,q3⟩:=I2.after hq'
     subst ev
     exact⟨rv,⟨V.ref (s.heap.objs.size+1),H',I3,rfl,q3⟩⟩
   |next=>exact False.elim hq'
   |brk=>exact False.elim hq'
   |cont=>exact False.elim hq'
theorem pe_make(M:Mk X.K C f)(F:FnOk X.prog X.w X.K X.mg X.base CX k f fd ps sp)(hr:Room (k+1) X.A)(hg:Gl X x)(hm:X.mg x=some (.ref C))(hb:Binds X.K fd ps ds)(hd:Vals dvs ds)(hx:Passes CX X E)
  (ha:PA X (e::es) t) (hdb:(x==("__debug__":Str))=false:=by decide) (he:starEach (e::es) X.env=(false,eval e X.env)::starEach es X.env:=by rfl) (hpl:(backTo pos (starEach es X.env)).any (·.1)=false:=by rfl) :
  PE X (.Call (.Name x p) (e::es) [] pos) (tMake C sp dvs E t):=by
 intro pins s σ H Q I h
 refine wpAny_Call_Name_kw (ld_glob I hg hm ?_ hdb)
 refine PySem.W.callWith_K (h₀:=X.base) I.ok.mod.kin M.kp (thn (ha pos pins s σ H _ I h) fun us s1 ⟨vs,H1,I1,r,q⟩=>⟨I1.kIn,?_⟩) he hpl
 exact run_make M F hr hb hd hx I1 r q
end
def PK(X:Cx)(kws:List Keyword)(t:TA):Prop:=
 ∀(pos:Pos) (pins:List (Addr×Obj)) (s:Shared) (σ:St) (H:Hp) (Q:List V->Hp->Prop),Inv X pins σ H s->t σ H Q->wpAny (model X.prog X.w) X.A (evalAll ((backToKw pos (keywordEach kws X.env)).map (·.2))) (AP X pins σ Q) X.xe s
section
variable{X:Cx}{CX:CXT}{k:Nat}{f C:Addr}{fd:FuncData}{ps ks:List Str}{sp:Sp}{E:XK}{x m:Str}{p pos apos kpos:Pos}{e o:Expr}{es:List Expr}{kws:List Keyword}{te ta:TE}{t tk:TA}{nm:Option Str}
theorem pk_nil:PK X [] tNil:=fun _ _ _ _ H Q I h=>wpAny_evalAll_nil ⟨[],H,I,.nil,h⟩
theorem pk_cons(ha:PE X e te)(hr:PK X kws t):PK X (⟨nm,e,kpos⟩::kws) (tCons te t):=by
 intro pos pins s σ H Q I h
 show wpAny _ _ (evalAll ((do let v ←eval e X.env;standAt pos;pure v)::(backToKw pos (keywordEach kws X.env)).map (·.2))) _ _ s
 refine wpAny_evalAll_cons (wpAny_bind (thn (ha pins s σ H _ I h) fun u s1 ⟨x,H1,I1,r1,q1⟩=>wpAny_bind (wpAny_standAt (wpAny_pure ?_))))
 exact thn (hr pos pins s1 σ H1 _ I1 q1) fun us s2 ⟨xs,H2,I2,r2,q2⟩=>⟨x::xs,H2,I2,.cons r1 r2,q2⟩
structure KBinds(K:PySem.W.Frag)(fd:FuncData)(ps ks:List Str)(g:List Value->List Value->List Value)(gV:List V->List V->List V):Prop where
 to:∀(s:Shared) (us ws:List Value),K.In s.heap->(g us ws).length=ps.length->BindsTo s fd ⟨us,ks.zip ws⟩ (ps.zip (g us ws))
 rel:∀{vs:List V}{us:List Value}{zs:List V}{ws:List Value},Vals vs us->Vals zs ws->Vals (gV vs zs) (g us ws)
variable{g:List Value->List Value->List Value}{gV:List V->List V->List V}
theorem run_fnk (F:FnOk X.prog X.w X.K X.mg X.base CX k f fd ps sp) (hr:Room k X.A) (hb:KBinds X.K fd ps ks g gV) (hx:Passes CX X E)
  (I:Inv X pins σ H s) (r:Vals vs us) (rz:Vals zs ws) (h:sp (gV vs zs) H Q E):wpAny (model X.prog X.w) X.A (call (.ref f) us (ks.zip ws)) (EP X pins σ Q) X.xe s:=by
 have r2:=hb.rel r rz
 have hl:(g us ws).length=ps.length:=by rw[←r2.length];exact F.len _ _ _ _ h
 refine wpAny_call (codeAny_mono (F.run X.A X.stack s H ⟨us,ks.zip ws⟩ (g us ws) (gV vs zs) Q E hr I.env0 (hb.to s us ws I.kIn hl) r2 h) fun r s' hq=>?_)
 cases r with
 |error e=>exact hx pins σ H s e s' I hq
 |ok fl=>
   cases fl with
   |ret u=>exact I.after hq
   |next=>exact False.elim hq
   |brk=>exact False.elim hq
   |cont=>exact False.elim hq
end
structure FnScope(N P:List Str)(sc:Scope):Prop where
 kind:sc.kind=.function
 co:sc.isCoroutine=false
 gen:sc.isGenerator=false
 nd:N.Nodup
 pre:N.take P.length=P
 par:∀x∈P,sc.names.lookup x=some .local∨sc.names.lookup x=some .cell
 nofree:∀y∈sc.names,y.2≠.free
theorem bindL_out {kindOf:Str->Option NameKind}:∀ {binds:List (Str×Value)}{m:Str->Option Value},(∀ v,(x,v)∉binds)->bindL kindOf binds m x=m x
 |[],_,_=>rfl
 | (n,v)::r,m,h=>by
   unfold bindL
   rw[bindL_out fun w hw=>h w (List.mem_cons_of_mem _ hw)]
   split
   ·have:x≠n:=by rintro rfl;exact h v List.mem_cons_self
    simp[this]
   ·rfl
theorem bindC_out {kindOf:Str->Option NameKind}:∀ {binds:List (Str×Value)}{m:Str->Option Value},(∀ v,(x,v)∉binds)->bindC kindOf binds m x=m x
 |[],_,_=>rfl
 | (n,v)::r,m,h=>by
   unfold bindC
   rw[bindC_out fun w hw=>h w (List.mem_cons_of_mem _ hw)]
   split
   ·rfl
   ·have:x≠n:=by rintro rfl;exact h v List.mem_cons_self
    simp[this]
theorem bindL_get {kindOf:Str->Option NameKind}:∀ {P:List Str}{vs:List Value}{i:Nat}{m:Str->Option Value},P.Nodup->P[i]?=some x->vs[i]?=some v->kindOf x=some .local->
  bindL kindOf (P.zip vs) m x=some v
 |[],_,_,_,_,h,_,_=>by simp at h
 |_::_,[],_,_,_,_,h,_=>by simp at h
 |p::P,w::vs,0,m,nd,h1,h2,hk=>by
   simp at h1 h2;subst h1;subst h2
   show bindL kindOf ((p,w)::P.zip vs) m p=_
   unfold bindL
   rw[bindL_out fun v hv=>(List.nodup_cons.mp nd).1 (List.of_mem_zip hv).1,if_pos hk]
   simp
 |p::P,w::vs,i+1,m,nd,h1,h2,hk=>by
   show bindL kindOf ((p,w)::P.zip vs) m x=_
   unfold bindL
   exact bindL_get (i:=i) (List.nodup_cons.mp nd).2 (by simpa using h1) (by simpa using h2) hk
theorem bindC_get {kindOf:Str->Option NameKind}:∀ {P:List Str}{vs:List Value}{i:Nat}{m:Str->Option Value},P.Nodup->P[i]?=some x->vs[i]?=some v->kindOf x≠some .local->
  bindC kindOf (P.zip vs) m x=some v
 |[],_,_,_,_,h,_,_=>by simp at h
 |_::_,[],_,_,_,_,h,_=>by simp at h
 |p::P,w::vs,0,m,nd,h1,h2,hk=>by
   simp at h1 h2;subst h1;subst h2
   show bindC kindOf ((p,w)::P.zip vs) m p=_
   unfold bindC
   rw[bindC_out fun v hv=>(List.nodup_cons.mp nd).1 (List.of_mem_zip hv).1,if_neg hk]
   simp
 |p::P,w::vs,i+1,m,nd,h1,h2,hk=>by
   show bindC kindOf ((p,w)::P.zip vs) m x=_
   unfold bindC
   exact bindC_get (i:=i) (List.nodup_cons.mp nd).2 (by simpa using h1) (by simpa using h2) hk
def start(N:List Str)(vs:List V):St:=vs.map some++List.replicate (N.length-vs.length) none
def cxOf(CX:CXT)(P:Program)(w:World)(K:PySem.W.Frag)(mg:Str->Option Value)(base:Heap)(N:List Str)(qual:Str)(scope:Scope)(f:Addr)(cd:Value)(A:Around)(outer:List Env)(s:Shared)(H:Hp)(E:XK):Cx where
 prog:=P
 w:=w
 K:=K
 mg:=mg
 base:=base
 A:=A.deeper (envOfC qual scope s.heap.objs.size f cd)
 N:=N
 s₀:=s
 H₀:=H
 env:=envOfC qual scope s.heap.objs.size f cd
 outer:=outer
 stack:=envOfC qual scope s.heap.objs.size f cd::outer
 ex:=[]
 calm:=true
 fn:=fun _=>true
 pn:=[]
 xe:=fun e s'=>wpAny (model P w) (A.deeper (envOfC qual scope s.heap.objs.size f cd)) (leaving (envOfC qual scope s.heap.objs.size f cd) e) (fun _ s''=>CX outer H s E e s'') (fun e' s''=>CX outer H s E e' s'') s'
theorem cell_has{sc:Scope}{n:Nat}{x:Str}(h:sc.names.lookup x=some .cell):∃c,(cellsFrom n sc.names []).lookup x=some c:=by
 have q:=PySem.W.cellsFrom_some sc.names n [] (.inl h)
 exact Option.isSome_iff_exists.mp q
theorem inv_start {CX:CXT}{P:Program}{w:World}{K:PySem.W.Frag}{mg:Str->Option Value}{base:Heap}{N ps:List Str}{qual:Str}{scope:Scope}{f:Addr}{cd:Value}{A:Around}{outer:List Env}{s s1:Shared}{H:Hp}{E:XK}{us:List Value}{vs:List V}
  (S:FnScope N ps scope) (hd:A.handled=none) (e0:Env0 P w K mg base A outer s H) (hl:vs.length=ps.length) (r:Vals vs us)
  (x:InCallC s s.heap.objs.size (bindL (envOfC qual scope s.heap.objs.size f cd).kindOf (ps.zip us) fun _=>none) (cellsFrom (s.heap.objs.size+1) scope.names []) (bindC (envOfC qual scope s.heap.objs.size f cd).kindOf (ps.zip us) fun _=>none) s1) :
  Inv (cxOf CX P w K mg base N qual scope f cd A outer s H E) [] (start N vs) H s1:=by
 have hpl:ps.length≤N.length:=by have:=congrArg List.length S.pre;rw[List.length_take] at this;omega
 obtain⟨h1,tk,rfl,hk⟩:=x.done
 have noA:∀b:Addr,b∉(cxOf CX P w K mg base N qual scope f cd A outer s H E).ex:=fun b z=>absurd (show b∈([]:List Addr) from z) (by simp)
 refine⟨⟨e0.mod,S.kind,rfl,rfl,Nat.le_refl _,fun y z c h1 h2=>?_,fun y hy=>?_,fun y c _ h=>?_,fun _=>hd,Around.frames_deeper e0.frames,.inr ⟨rfl,rfl⟩,fun b z=>absurd z (noA b),e0.bs,e0.bsz,fun b _ _=>noA b,fun b z=>absurd z (noA b),e0.funs,e0.frf⟩,
  rfl,e0.bare,Un.kept hk,⟨_,x.toInCall.ns,fun i y v h1 h2 h3=>?_⟩,fun y c h=>⟨_,x.cell y c h⟩,e0.hok.fresh (Nat.le_refl _),fun y c h=>?_,fun p hp=>absurd (show p∈([]:List (Addr×Obj)) from hp) (by simp),e0.hok.kept hk,?_⟩
 ·exact name_of_addr x.apart (PySem.mem_of_lookup h1) (PySem.mem_of_lookup h2)
 ·have hy:scope.names.lookup y=some .cell∨scope.names.lookup y=some .free:=hy
  rcases hy with hy | hy
  ·exact cell_has hy
  ·exact absurd rfl (S.nofree _ (PySem.mem_of_lookup hy))
 ·exact Nat.le_of_lt (x.above y c (PySem.mem_of_lookup h))
 ·have hi:i<vs.length:=by
   unfold start at h2
   by_cases hi:i<vs.length
   ·exact hi
   ·rw[List.getElem?_append_right (by simpa using hi)] at h2
    rw[List.getElem?_replicate] at h2
    split at h2<;>cases h2
  have ha:vs[i]?=some v:=by
   unfold start at h2
   rw[List.getElem?_append_left (by simpa using hi),List.getElem?_map] at h2
   cases e:vs[i]? with
   |none=>rw[e] at h2;cases h2
   |some a=>rw[e] at h2;cases h2;rfl
  obtain⟨u,hu,rv⟩:=r.get ha
  have hp:ps[i]?=some y:=by
   rw[←S.pre,List.getElem?_take_of_lt (by omega)];exact h1
  have ndP:ps.Nodup:=by rw[←S.pre];exact S.nd.sublist (List.take_sublist _ _)
  refine⟨u,rv,?_⟩
  rcases S.par y (List.mem_of_getElem? hp) with k | k
  ·exact .inl ⟨k,bindL_get ndP hp hu k⟩
  ·obtain⟨c,e⟩:=cell_has (n:=s.heap.objs.size+1) k
   refine .inr ⟨.inl k,c,e,?_⟩
   have q:=x.cell y c e
   rw[bindC_get ndP hp hu (by show scope.names.lookup y≠_;rw[k];decide)] at q
   exact q
 ·exact e0.hok.fresh (Nat.le_of_lt (x.above y c (PySem.mem_of_lookup h)))
 ·unfold start
  show _=N.length
  rw[List.length_append,List.length_map,List.length_replicate]
  omega
theorem fn_of {CX:CXT}{P:Program}{w:World}{K:PySem.W.Frag}{mg:Str->Option Value}{base:Heap}{k:Nat}{f:Addr}{name qual:Str}{params:Arguments}{body:List Stmt}{scope:Scope}{dV kV doc pm cdv ct oc:Value}{an od:Option Addr}
  {osl:Array (Option Value)}{N ps:List Str}{sp:Sp} (lk:K.lookup f=some ⟨oc,od,.func (PySem.W.fnOf name qual params body scope dV kV doc pm an cdv ct),osl⟩) (hcd:PySem.W.codeIn K cdv qual=true) (S:FnScope N ps scope)
  (len:∀vs H Q E,sp vs H Q E->vs.length=ps.length)
  (hbody:∀(A:Around) (outer:List Env) (s:Shared) (H:Hp) (vs:List V) (Q:VK) (E:XK),Room k (A.deeper (envOfC qual scope s.heap.objs.size f cdv))->sp vs H Q E->
    ∃t,PSs (cxOf CX P w K mg base N qual scope f cdv A outer s H E) body t∧t { nx:=fun _ H'=>Q .non H',rt:=Q } (start N vs) H) :
  FnOk P w K mg base CX (k+1) f (PySem.W.fnOf name qual params body scope dV kV doc pm an cdv ct) ps sp:=by
 refine⟨len,fun A outer s H args us vs Q E hr e0 hb r hsp=>?_⟩
 have hl:=len _ _ _ _ hsp
 have KX:K.In s.heap:=e0.mod.kin.keeps fun b o e=>(e0.bs b o e).1
 have lim:s.heap.NoLimit:=e0.mod.nolimit.keeps fun b o e=>(e0.bs b o e).1
 have hkind:∀y∈ps.zip us,scope.names.lookup y.1=some .local∨(scope.names.lookup y.1=some .cell∧((cellsFrom (s.heap.objs.size+1) scope.names []).lookup y.1).isSome=true):=fun⟨n,v⟩ hy=>by
  rcases S.par n (List.of_mem_zip hy).1 with q | q
  ·exact .inl q
  ·exact .inr ⟨q,PySem.W.cellsFrom_some _ _ _ (.inl q)⟩
 refine codeAny_call_function hr.depth (KX _ _ lk) rfl S.co S.gen rfl (PySem.W.codeRec_of KX hcd) (hb _ _ _ _ ?_)
 refine wpAny_newFunctionEnv_cells S.kind hkind fun env he s1 x=>?_
 subst he
 refine⟨lim.keeps x.toInCall.keep,codeAny_func ?_⟩
 obtain⟨t,ht,hq⟩:=hbody A outer s H vs Q E (hr.deeper _) hsp
 have I:Inv (cxOf CX P w K mg base N qual scope f cdv A outer s H E) [] (start N vs) H s1:=inv_start S hr.hd e0 hl r x
 refine wpAny_mono (ht [] s1 (start N vs) H _ I hq) (fun fl s' hs=>?_) fun e s' hs=>hs
 have fin:∀{σ':St}{H':Hp}{v:V}{u:Value},Inv (cxOf CX P w K mg base N qual scope f cdv A outer s H E) [] σ' H' s'->RelV v u->Q v H'->CE outer P w H s Q u s':=
  fun {σ' H' v u} J rv q=>⟨v,H',J.os,J.bare,J.base,J.hok,rv,q⟩
 cases fl with
 |ret u=>
   obtain⟨v,σ',H',J,rv,q⟩:=hs
   exact fin J rv q
 |next=>
   obtain⟨σ',H',J,q⟩:=hs
   exact fin (v:=V.non) (u:=Value.none) J rfl q
 |brk=>
   obtain⟨_,_,_,q⟩:=hs
   exact False.elim q
 |cont=>
   obtain⟨_,_,_,q⟩:=hs
   exact False.elim q
open PySem PySem.Spec PyProof.Rows
section
variable{X:Cx}{x:Str}{p pos:Pos}{e:Expr}{es:List Expr}{t:TA}{id T:String}{r:List V->Hp->VK->Prop}
def tCB(r:List V->Hp->VK->Prop)(t:TA):TE:=fun σ H Q=>t σ H fun vs H1=>r vs H1 Q
theorem pe_callB(hc:CallR X (.builtin id) r)(hg:Gl X x)(hm:X.mg x=none)(hv:bootBuiltins x=some (.builtin id))(ha:PA X (e::es) t)(hn:x≠"__name__":=by decide)(hdb:(x==("__debug__":Str))=false:=by decide)
  (he:starEach (e::es) X.env=(false,eval e X.env)::starEach es X.env:=by rfl) (hpl:(backTo pos (starEach es X.env)).any (·.1)=false:=by rfl):PE X (.Call (.Name x p) (e::es) [] pos) (tCB r t):=by
 intro pins s σ H Q I h
 refine wpAny_Call_Name_kw (ld_blt I hg hm hv ?_ hn hdb)
 exact PyProof.Rows.callWith_builtin1 (thn (ha pos pins s σ H _ I h) fun us s1 ⟨vs,H1,I1,r1,q1⟩=>hc pins s1 σ H1 vs us Q I1 r1 q1) he hpl
theorem pe_callTy(hc:CallR X (.type T) r)(hg:Gl X x)(hm:X.mg x=none)(hv:bootBuiltins x=some (.type T))(ha:PA X (e::es) t)(hn:x≠"__name__":=by decide)(hdb:(x==("__debug__":Str))=false:=by decide)
  (he:starEach (e::es) X.env=(false,eval e X.env)::starEach es X.env:=by rfl) (hpl:(backTo pos (starEach es X.env)).any (·.1)=false:=by rfl):PE X (.Call (.Name x p) (e::es) [] pos) (tCB r t):=by
 intro pins s σ H Q I h
 refine wpAny_Call_Name_kw (ld_blt I hg hm hv ?_ hn hdb)
 exact PyProof.Rows.callWith_type1 (thn (ha pos pins s σ H _ I h) fun us s1 ⟨vs,H1,I1,r1,q1⟩=>hc pins s1 σ H1 vs us Q I1 r1 q1) he hpl
end
end L2
namespace HT
open PySem PyProof.Rows
section
open PySem.SeqAt
open PySem.AutoSeq1 (wpAny_loadPart')
open PySem.MeetsSeq PySem.MeetsSeq2 PySem.MeetsSeq3
end
section
variable{prog:Program}{w:World}{A:Around}{E:Value->Shared->Prop}{s:Shared}
theorem cat_tup (ht:IsTup s.heap t vs.toArray) (hb:IsTup s.heap b ws.toArray) (hv:vs≠[])
  (h1:ws=[]->Q (.ref t) s) (h2:ws≠[]->Q (.ref s.heap.objs.size) { s with heap:=s.heap.push { cls:=.type "tuple",data:=.seq (vs++ws).toArray } })
  (hsz:vs.length+ws.length≤sizeLine):wpAny (model prog w) A (binaryOp .Add (.ref t) (.ref b)) Q E s:=by
 obtain⟨⟨cls,dd,data,sl⟩,ho,hc,n,hd⟩:=id ht
 obtain⟨⟨cls2,dd2,data2,sl2⟩,ho2,hc2,n2,hd2⟩:=id hb
 simp only at hc hd hc2 hd2
 subst hc hd hc2 hd2
 have e:vs.toArray++ws.toArray=(vs++ws).toArray:=by simp
 by_cases hw:ws=[]
 ·exact concat_meets ⟨_,ho,rfl⟩ ⟨_,ho2,rfl⟩ noFill_tuple_add seq_tuple_add PySem.F.slot_tuple_add PySem.F.entry_tuple_add (PySem.F.args_tuple_add_2 _ _)
   (tuple_addW1 t b vs.toArray ws.toArray n n2 dd dd2 sl sl2 (by simpa using hv) (by simp[hw])) ⟨ho,ho2,h1 hw⟩
 ·refine concat_meets ⟨_,ho,rfl⟩ ⟨_,ho2,rfl⟩ noFill_tuple_add seq_tuple_add PySem.F.slot_tuple_add PySem.F.entry_tuple_add (PySem.F.args_tuple_add_2 _ _)
   (tuple_addW2 t b vs.toArray ws.toArray n n2 dd dd2 sl sl2 (by simpa using hv) (by simpa using hw) (by rw[List.size_toArray,List.size_toArray];exact hsz)) ⟨ho,ho2,?_⟩
  rw[e]
  exact h2 hw
def sIx(n d:Nat):Option Int->Nat
 |none=>d
 |some v=>if v<0 then (v+(n:Int)).toNat else min v.toNat n
theorem sIx_none(n d:Nat):sIx n d none=d:=rfl
theorem sIx_nat(n d k:Nat):sIx n d (some (k:Int))=min k n:=by
 show (if (k:Int)<0 then ((k:Int)+(n:Int)).toNat else min (k:Int).toNat n)=min k n
 rw[if_neg (by omega),Int.toNat_natCast]
theorem sIx_le (n d:Nat) (hd:d≤n) (o:Option Int):sIx n d o≤n:=by
 cases o with
 |none=>exact hd
 |some v=>
   show (if v<0 then (v+(n:Int)).toNat else min v.toNat n)≤n
   by_cases hv:v<0
   ·rw[if_pos hv];omega
   ·rw[if_neg hv];exact Nat.min_le_right _ _
theorem clip_eq(v:Int)(n d:Nat):(if v<0 then max (v+(n:Int)) 0 else min v (n:Int))=((sIx n d (some v):Nat):Int):=by
 show (if v<0 then max (v+(n:Int)) 0 else min v (n:Int))=(((if v<0 then (v+(n:Int)).toNat else min v.toNat n):Nat):Int)
 by_cases hv:v<0
 ·simp only[if_pos hv];omega
 ·simp only[if_neg hv];omega
theorem adjust_gen(lo hi:Option Int)(n:Nat):Builtin.Slice.sliceAdjust lo hi 1 (n:Int)=(((sIx n 0 lo:Nat):Int),((sIx n n hi:Nat):Int)):=by
 have h1:¬ ((1:Int)<0):=by omega
 unfold Builtin.Slice.sliceAdjust
 simp only[h1,if_false]
 refine Prod.ext ?_ ?_
 ·cases lo with
  |none=>rfl
  |some v=>exact clip_eq v n 0
 ·cases hi with
  |none=>rfl
  |some v=>exact clip_eq v n n
theorem places_gen(i j:Nat):Builtin.Slice.slicePlaces (i:Int) (j:Int) 1=j-i:=by
 unfold Builtin.Slice.slicePlaces
 have h1:(1:Int) > 0:=by omega
 simp only[h1,if_true,Int.ediv_one]
 split<;>omega
theorem slicePart_(p:IsPart v o)(h:Q o s):wpAny (model prog w) A (Builtin.Slice.slicePartIndex v) Q E s:=by
 cases p with
 |none=>exact slicePart_none h
 |int i t=>exact slicePart_int h
theorem sliceApplied_gen{lo hi:Option Int}{n:Nat}{Q:Int×Int×Nat->Shared->Prop}(hs:s.heap.IsSliceOf sl vl vu .none)(pl:IsPart vl lo)(pu:IsPart vu hi)
  (h:Q (((sIx n 0 lo:Nat):Int),1,sIx n n hi-sIx n 0 lo) s):wpAny (model prog w) A (Builtin.Slice.sliceApplied (.ref sl) (pure (n:Int))) Q E s:=by
 obtain⟨os,hos,hcs,hds⟩:=id hs
 unfold Builtin.Slice.sliceApplied Builtin.Slice.sliceFields
 refine wpAny_bind (wpAny_bind (wpAny_field hos hds (x:=vl) rfl (wpAny_bind (wpAny_field hos hds (x:=vu) rfl (wpAny_bind (wpAny_field hos hds (x:=.none) rfl (wpAny_pure ?_)))))))
 refine wpAny_bind (slicePart_none ?_)
 show wpAny _ _ (if ((1:Int)==0)=true then _ else _) _ _ s
 rw[if_neg (by decide)]
 refine wpAny_bind (slicePart_ pl (wpAny_bind (slicePart_ pu (wpAny_bind (wpAny_pure ?_)))))
 show wpAny _ _ (match Builtin.Slice.sliceAdjust lo hi 1 (n:Int) with | (lo,hi)=>pure (lo,(1:Int),Builtin.Slice.slicePlaces lo hi 1)) _ _ s
 rw[adjust_gen lo hi n]
 show wpAny _ _ (pure (((sIx n 0 lo:Nat):Int),(1:Int),Builtin.Slice.slicePlaces ((sIx n 0 lo:Nat):Int) ((sIx n n hi:Nat):Int) 1)) _ _ s
 rw[places_gen]
 exact wpAny_pure h
theorem pick_gen(xs:Array Value)(i k:Nat):((List.range k).filterMap fun (m:Nat)=>xs[((i:Int)+(m:Int)*1).toNat]?).toArray=((xs.toList.drop i).take k).toArray:=by
 have e:(fun (m:Nat)=>xs[((i:Int)+(m:Int)*1).toNat]?)=fun m=>xs[i+m]?:=by
  funext m
  have:((i:Int)+(m:Int)*1).toNat=i+m:=by omega
  rw[this]
 rw[e]
 have:=pick_run xs i k
 rw[List.filterMap_map] at this
 have e2:((fun x=>xs[x]?) ∘ fun x=>i+x)=fun m=>xs[i+m]?:=rfl
 rw[e2] at this
 rw[this]
theorem getItem_tuple_cut{items:Array Value}{lo hi:Option Int}{Q:Value->Shared->Prop}(ht:IsTup s.heap t items)(hs:s.heap.IsSliceOf sl vl vu .none)(pl:IsPart vl lo)(pu:IsPart vu hi)
  (hw:¬ (sIx items.size 0 lo=0∧sIx items.size items.size hi=items.size))
  (h:Q (.ref s.heap.objs.size) { s with heap:=s.heap.push { cls:=.type "tuple",data:=.seq ((items.toList.drop (sIx items.size 0 lo)).take (sIx items.size items.size hi-sIx items.size 0 lo)).toArray } })
  (hsz:items.size≤sizeLine):wpAny (model prog w) A (getItem (.ref t) (.ref sl)) Q E s:=by
 have htake:sizeOk (.seq ((items.toList.drop (sIx items.size 0 lo)).take (sIx items.size items.size hi-sIx items.size 0 lo)).toArray):=by
  show ((items.toList.drop (sIx items.size 0 lo)).take (sIx items.size items.size hi-sIx items.size 0 lo)).toArray.size≤sizeLine
  rw[List.size_toArray,List.length_take,List.length_drop,Array.length_toList]
  omega
 have hj:sIx items.size items.size hi≤items.size:=sIx_le _ _ (Nat.le_refl _) hi
 obtain⟨os,hos,hcs,hds⟩:=id hs
 have hTs:s.TypeIs (.ref sl) "slice":=⟨os,hos,hcs⟩
 unfold getItem
 try with_reducible refine wpAny_holding ?_
 first | refine wpAny_bind (wpAny_pure ?_) | skip
 refine wpAny_bind (wpAny_sequenceKey ht.typeIs (by decide) ?_)
 refine wpAny_bind (wpAny_callSpecial?_slot (name:=Str.ofString "__getitem__") ht.typeIs PyProof.Rows.slot_tuple_getitem
  (wpAny_call_entry PyProof.Rows.slot_tuple_getitem ht.typeIs entry_tuple_getitem ?_ (args_tuple_getitem _ _)))
 show wpAny _ _ (Builtin.Tuple.tupleItemsOf (.ref t)>>=_) _ _ s
 refine wpAny_bind (tupleItemsOf_ ht ?_)
 refine wpAny_bind (wpAny_typeOf hTs ?_)
 rw[if_pos (by decide)]
 refine wpAny_bind (sliceApplied_gen hs pl pu ?_)
 have hno:¬ ((((sIx items.size 0 lo:Nat):Int)==0&&(1:Int)==1&&(sIx items.size items.size hi-sIx items.size 0 lo)==items.size)=true):=by
  intro q
  rw[Bool.and_eq_true,Bool.and_eq_true] at q
  have q1:((sIx items.size 0 lo:Nat):Int)=0:=eq_of_beq q.1.1
  have q2:sIx items.size items.size hi-sIx items.size 0 lo=items.size:=eq_of_beq q.2
  exact hw ⟨by omega,by omega⟩
 show wpAny _ _ (if (((sIx items.size 0 lo:Nat):Int)==0&&(1:Int)==1&&(sIx items.size items.size hi-sIx items.size 0 lo)==items.size)=true then _ else _) _ _ s
 rw[if_neg hno,pick_gen]
 first
  |exact wpAny_bind (m:=Builtin.Tuple.tupleExact _) (wpAny_newObj_type (wpAny_pure ⟨_,rfl,wpAny_pure h⟩) htake)
  |exact wpAny_bind (m:=Builtin.Tuple.tupleExact _) (wpAny_newObj_type (wpAny_bind (wpAny_pure (wpAny_pure ⟨_,rfl,wpAny_pure h⟩))) htake)
  |exact wpAny_bind (wpAny_bind (m:=Builtin.Tuple.tupleExact _) (wpAny_newObj_type (wpAny_pure (wpAny_pure ⟨_,rfl,wpAny_pure h⟩)) htake))
  |exact wpAny_bind (wpAny_bind (m:=Builtin.Tuple.tupleExact _) (wpAny_newObj_type (wpAny_pure ⟨_,rfl,wpAny_pure h⟩) htake))
end
end HT
namespace L2
open PySem PySem.Spec PyProof.Rows
abbrev TO:=St->Hp->(Option Int->Hp->Prop)->Prop
def PO (X:Cx) (e:Option Expr) (t:TO):Prop:=
 ∀(pins:List (Addr×Obj)) (s:Shared) (σ:St) (H:Hp) (Q:Option Int->Hp->Prop),Inv X pins σ H s->t σ H Q->
   wpAny (model X.prog X.w) X.A (evalPart e X.env) (fun u s'=>∃o H',Inv X pins σ H' s'∧IsPart u o∧Q o H') X.xe s
def tNoPart:TO:=fun _ H Q=>Q none H
def tPart(t:TE):TO:=fun σ H Q=>t σ H fun x H1=>∃i,x=.int i∧Q (some i) H1
theorem intsAre_of:∀ {us:List Value},Vals (ns.map V.int) us->IntsAre us ns:=by
 induction ns with
 |nil=>intro us r;rw[List.map_nil] at r;cases r;exact .nil
 | cons n ns ih=>
   intro us r
   rw[List.map_cons] at r
   cases r with
   |cons r1 r2=>
     obtain⟨t,e⟩:=r1
     subst e
     exact .cons n t (ih r2)
section
variable{X:Cx}{e:Expr}{te:TE}{lo hi:Option Expr}{tl th:TO}{pos p2:Pos}
theorem po_none:PO X none tNoPart:=by
 intro pins s σ H Q I h
 rw[evalPart_none]
 exact wpAny_pure ⟨none,H,I,.none,h⟩
theorem po_some(h:PE X e te):PO X (some e) (tPart te):=by
 intro pins s σ H Q I hw
 rw[evalPart_some]
 refine thn (h pins s σ H _ I hw) fun u s1 ⟨x,H1,I1,r1,q1⟩=>?_
 obtain⟨i,rfl,q⟩:=q1
 obtain⟨t,rfl⟩:=r1
 exact⟨some i,H1,I1,.int i t,q⟩
def SlR (X:Cx) (r:V->Option Int->Option Int->Hp->VK->Prop):Prop:=
 ∀(pins:List (Addr×Obj)) (s:Shared) (σ:St) (H:Hp) (x:V) (v vl vu:Value) (lo hi:Option Int) (sl:Addr) (Q:VK),Inv X pins σ H s->RelV x v->s.heap.IsSliceOf sl vl vu .none->IsPart vl lo->IsPart vu hi->r x lo hi H Q->
   ∃T id,typeLookup (.type T) "__getitem__"=pure (some (.builtin id))∧s.TypeIs v T∧wpAny (model X.prog X.w) X.A (getItem v (.ref sl)) (EP X pins σ Q) X.xe s
def tSl(r:V->Option Int->Option Int->Hp->VK->Prop)(te:TE)(tl th:TO):TE:=fun σ H Q=>te σ H fun x H1=>tl σ H1 fun l H2=>th σ H2 fun u H3=>r x l u H3 Q
theorem pe_slice(hr:SlR X r)(he:PE X e te)(hl:PO X lo tl)(hu:PO X hi th):PE X (.Subscript e (.Slice lo hi none p2) pos) (tSl r te tl th):=by
 intro pins s σ H Q I h
 refine Subscript_ (thn (he pins s σ H _ I h) fun v s1 ⟨x,H1,I1,r1,q1⟩=>?_)
 refine wpAny_Slice (thn (hl pins s1 σ H1 _ I1 q1) fun vl s2 ⟨l,H2,I2,pl,q2⟩=>thn (hu pins s2 σ H2 _ I2 q2) fun vu s3 ⟨u,H3,I3,pu,q3⟩=>?_)
 rw[evalPart_none]
 refine wpAny_pure ?_
 have I4:Inv X pins σ H3 { s3 with heap:=s3.heap.push { cls:=.type "slice",data:=.fields #[vl,vu,.none] } }:=I3.kept (t':=s3.toks) fun b ob q=>Heap.get?_push_of_some _ q
 obtain⟨T,id,hT,ht,hg⟩:=hr pins { s3 with heap:=s3.heap.push { cls:=.type "slice",data:=.fields #[vl,vu,.none] } } σ H3 x v vl vu l u s3.heap.objs.size Q I4 r1 (Heap.IsSliceOf.new ..) pl pu q3
 show wpAny (model X.prog X.w) X.A (subscriptTail e (.Slice lo hi none p2) v (.ref s3.heap.objs.size)) (EP X pins σ Q) X.xe { s3 with heap:=s3.heap.push { cls:=.type "slice",data:=.fields #[vl,vu,.none] } }
 exact tail_any (ops:=[.ref s3.heap.objs.size,v]) ht hT hg (by with_unfolding_all rfl)
def cutV(xs:List V)(lo hi:Option Int):List V:=(xs.drop (HT.sIx xs.length 0 lo)).take (HT.sIx xs.length xs.length hi-HT.sIx xs.length 0 lo)
theorem cutV_length(xs:List V)(lo hi:Option Int):(cutV xs lo hi).length≤xs.length:=by
 unfold cutV
 rw[List.length_take,List.length_drop]
 omega
def rSlT(K:PySem.W.Frag):V->Option Int->Option Int->Hp->VK->Prop:=fun x lo hi H Q=>∃a xs,x=.ref a∧SqT K H a xs ∧
 ¬ (HT.sIx xs.length 0 lo=0∧HT.sIx xs.length xs.length hi=xs.length)∧∀p,H p=none->Q (.ref p) (upd H p (.tup (cutV xs lo hi)))
theorem sl_tup:SlR X (rSlT X.K):=by
 intro pins s σ H x v vl vu lo hi sl Q I rx hs pl pu h
 obtain⟨a,xs,rfl,hx,hw,q⟩:=h
 cases rx
 obtain⟨its,r,ht,hz⟩:=I.tuple hx
 have hlen:its.toArray.size=xs.length:=by rw[List.size_toArray];exact r.length.symm
 refine⟨"tuple",_,PyProof.Rows.slot_tuple_getitem.lookup,ht.typeIs,?_⟩
 refine HT.getItem_tuple_cut ht hs pl pu (by rw[hlen];exact hw) ?_ (by rw[hlen];exact hz)
 rw[hlen]
 refine⟨.ref s.heap.objs.size,_,I.laid (t':=s.toks) (o:=.tup (cutV xs lo hi)) (fun b ob q=>Heap.get?_push_of_some _ q) (Nat.le_refl _) ?_,rfl,q _ (I.hok.fresh (Nat.le_refl _))⟩
 exact⟨Nat.le_trans (cutV_length xs lo hi) hz,_,(r.drop (HT.sIx xs.length 0 lo)).take (HT.sIx xs.length xs.length hi-HT.sIx xs.length 0 lo),IsTup.new _ _⟩
def rCatT(K:PySem.W.Frag):R2:=fun x y H Q=>∃a b xs ys,x=.ref a∧y=.ref b∧SqT K H a xs∧SqT K H b ys∧xs≠[]∧xs.length+ys.length≤sizeLine ∧
 (ys=[]->Q (.ref a) H)∧(ys≠[]->∀p,H p=none->Q (.ref p) (upd H p (.tup (xs++ys))))
theorem Vals.nil_iff(r:Vals xs us):us=[] ↔ xs=[]:=by
 cases r with
 |nil=>simp
 |cons _ _=>simp
theorem op_catT:OpR X (binaryOp .Add) (rCatT X.K):=by
 intro pins s σ H x y v u Q I rx ry h
 obtain⟨a,b,xs,ys,rfl,rfl,ha,hb,hx,hz,q1,q2⟩:=h
 cases rx
 cases ry
 obtain⟨its,r1,p1,_⟩:=I.tuple ha
 obtain⟨its2,r2,p2,_⟩:=I.tuple hb
 refine HT.cat_tup p1 p2 (fun z=>hx (r1.nil_iff.mp z)) (fun z=>⟨.ref a,H,I,rfl,q1 (r2.nil_iff.mp z)⟩) (fun z=>?_) (by rw[←r1.length,←r2.length];exact hz)
 refine⟨.ref s.heap.objs.size,_,I.laid (t':=s.toks) (o:=.tup (xs++ys)) (fun b ob q=>Heap.get?_push_of_some _ q) (Nat.le_refl _) ?_,rfl,q2 (fun w=>z (r2.nil_iff.mpr w)) _ (I.hok.fresh (Nat.le_refl _))⟩
 exact⟨by rw[List.length_append];exact hz,_,r1.append r2,IsTup.new _ _⟩
end
open PySem PySem.Spec PyProof.Rows
def ixN(n:Nat)(i:Int):Option Nat:=if 0≤i then (if i<n then some i.toNat else none) else if -(n:Int)≤i then some (i+n).toNat else none
def atI{α:Type}(xs:List α)(i:Int):Option α:=(ixN xs.length i).bind fun j=>xs[j]?
theorem ixN_seq (h:ixN n i=some j):seqIndex? i n=some j∧j<n∧-(n:Int)≤i∧i<n:=by
 unfold ixN at h
 by_cases h0:0≤i
 ·rw[if_pos h0] at h
  by_cases h1:i<n
  ·rw[if_pos h1] at h
   have e:i.toNat=j:=Option.some.inj h
   exact⟨by rw[seqIndex_of h0 h1,e],by omega,by omega,h1⟩
  ·rw[if_neg h1] at h;cases h
 ·rw[if_neg h0] at h
  by_cases h1:-(n:Int)≤i
  ·rw[if_pos h1] at h
   have e:(i+n).toNat=j:=Option.some.inj h
   exact⟨by rw[seqIndex_neg (by omega) h1,e],by omega,h1,by omega⟩
  ·rw[if_neg h1] at h;cases h
theorem atI_get (h:atI xs i=some v):∃ j,seqIndex? i xs.length=some j∧xs[j]?=some v∧j<xs.length∧-(xs.length:Int)≤i∧i<xs.length:=by
 unfold atI at h
 cases e:ixN xs.length i with
 |none=>rw[e] at h;cases h
 |some j=>
   rw[e] at h
   obtain⟨h1,h2,h3,h4⟩:=ixN_seq e
   exact⟨j,h1,h,h2,h3,h4⟩
def PlainIx(b:Expr):Prop:=∀o i,subscripted b false o i=operate [o,i] (getItem o i)
def IxR (X:Cx) (r:R2):Prop:=
 ∀(value slice:Expr) (pins:List (Addr×Obj)) (s:Shared) (σ:St) (H:Hp) (x y:V) (v u:Value) (Q:VK),Inv X pins σ H s->RelV x v->RelV y u->r x y H Q->
   subscripted slice false v u=operate [v,u] (getItem v u)->wpAny (model X.prog X.w) X.A (subscriptTail value slice v u) (EP X pins σ Q) X.xe s
def MtR (X:Cx) (id:String) (r:V->List V->Hp->VK->Prop):Prop:=
 ∀(pins:List (Addr×Obj)) (s:Shared) (σ:St) (H:Hp) (x:V) (xs:List V) (v:Value) (us:List Value) (Q:VK),Inv X pins σ H s->RelV x v->Vals xs us->r x xs H Q->
   wpAny (model X.prog X.w) X.A (call (.builtin id) (v::us)) (EP X pins σ Q) X.xe s
section
variable{X:Cx}{a b:Expr}{ta tb:TE}{pos:Pos}
theorem pe_ix(hr:IxR X r)(ha:PE X a ta)(hb:PE X b tb)(hs:PlainIx b):PE X (.Subscript a b pos) (tOp r ta tb):=by
 intro pins s σ H Q I h
 exact Subscript_ (binT ha hb I h fun v u s2 x y H2 I2 rx ry q=>hr a b pins s2 σ H2 x y v u Q I2 rx ry q (hs _ _))
def rIxL(K:PySem.W.Frag):R2:=fun x y H Q=>∃p xs i v,x=.ref p∧y=.int i∧SqL K H p xs∧atI xs i=some v∧Q v H
def rIxT(K:PySem.W.Frag):R2:=fun x y H Q=>∃p xs i v,x=.ref p∧y=.int i∧SqT K H p xs∧atI xs i=some v∧Q v H
theorem ix_list:IxR X (rIxL X.K):=by
 intro value slice pins s σ H x y v u Q I rx ry h hs
 obtain⟨p,xs,i,z,rfl,rfl,hq,he,q⟩:=h
 cases rx
 obtain⟨t,rfl⟩:=ry
 obtain⟨its,r,pl,hz⟩:=I.list hq
 obtain⟨j,h1,h2,h3,h4,h5⟩:=atI_get he
 obtain⟨w,ew,rw'⟩:=r.get h2
 have hl:=r.length
 have hn:=line63
 have fin:EP X pins σ Q w s:=⟨z,H,I,rw',q⟩
 by_cases h0:0≤i
 ·have hj:i.toNat=j:=by
   rw[seqIndex_of h0 h5] at h1
   exact Option.some.inj h1
  exact item_listR pl.isList h0 (by omega) (by rw[hj];simpa using ew) fin hs
 ·have hj:(i+(its.toArray.size:Int)).toNat=j:=by
   rw[seqIndex_neg (by omega) h4] at h1
   rw[List.size_toArray,←hl]
   exact Option.some.inj h1
  exact subscriptTail_builtinR (x:=w) pl.isList.typeIs slot_list_getitem.lookup
   (wpAny_getItem_list_neg (Q:=fun r s'=>r=w∧EP X pins σ Q r s') pl.isList (by omega) (by rw[List.size_toArray]<;>omega) (by omega) (by rw[hj];simpa using ew) ⟨rfl,fin⟩) hs
theorem ix_tup:IxR X (rIxT X.K):=by
 intro value slice pins s σ H x y v u Q I rx ry h hs
 obtain⟨p,xs,i,z,rfl,rfl,hq,he,q⟩:=h
 cases rx
 obtain⟨t,rfl⟩:=ry
 obtain⟨its,r,pl,hz⟩:=I.tuple hq
 obtain⟨j,h1,h2,h3,h4,h5⟩:=atI_get he
 obtain⟨w,ew,rw'⟩:=r.get h2
 have hl:=r.length
 have hn:=line63
 have fin:EP X pins σ Q w s:=⟨z,H,I,rw',q⟩
 exact subscriptTail_builtinR (x:=w) pl.typeIs slot_tuple_getitem.lookup
  (getItem_tuple (j:=j) (Q:=fun r s'=>r=w∧EP X pins σ Q r s') pl (by omega) (by omega) (by rw[List.size_toArray,←hl];exact h1) (by simpa using ew) ⟨rfl,fin⟩) hs
theorem mapSeq_set(its:List Value)(n j:Nat)(u:Value):Obj.mapSeq (·.setIfInBounds j u) { cls:=.type "list",data:=.seq its.toArray n }={ cls:=.type "list",data:=.seq (its.set j u).toArray n }:=by
 simp[Obj.mapSeq]
theorem Inv.lst(I:Inv X pins σ H s)(h:H p=some (.lst xs)) :
  ∃(its:List Value) (n:Nat),Vals xs its∧s.heap.get? p=some { cls:=.type "list",data:=.seq its.toArray n }∧xs.length≤sizeLine:=by
 obtain⟨z,its,n,r,e⟩:=I.hok p _ h
 exact⟨its,n,r,e,z⟩
theorem Inv.lstUpd{pins:List (Addr×Obj)}{xs ys:List V}{its its':List Value}{n n':Nat}{f:Obj->Obj}(I:Inv X pins σ H s)(h:H p=some (.lst xs))
  (ho:s.heap.get? p=some { cls:=.type "list",data:=.seq its.toArray n }) (hf:f { cls:=.type "list",data:=.seq its.toArray n }={ cls:=.type "list",data:=.seq its'.toArray n' }) (r:Vals ys its') (hz:ys.length≤sizeLine) (t:Nat) :
  Inv X pins σ (upd H p (.lst ys)) { s with heap:=s.heap.update p f,toks:=t }:=by
 have e:(s.heap.update p f).get? p=some { cls:=.type "list",data:=.seq its'.toArray n' }:=by
  rw[Heap.get?_update_self f ho (by rw[hf]<;>rfl),hf]
 refine I.write (x:=p) (e:=p) (by rw[h];trivial) (.inl rfl) (fun b u hb q=>(Heap.get?_update_other _ _ (Ne.symm hb)).trans q) ⟨_,e⟩ ?_
 exact⟨hz,its',n',r,e⟩
def rSetL:V->V->V->Hp->(Hp->Prop)->Prop:=fun o i v H Q=>∃p xs k j,o=.ref p∧i=.int k∧H p=some (.lst xs)∧ixN xs.length k=some j∧Q (upd H p (.lst (xs.set j v)))
theorem set_list:PSet X rSetL:=by
 intro pins s σ H o i v ov iv u Q I ro ri rv h
 obtain⟨p,xs,k,j,rfl,rfl,hp,hj,q⟩:=h
 cases ro
 obtain⟨t,rfl⟩:=ri
 obtain⟨its,n,r,ho,hz⟩:=I.lst hp
 obtain⟨h1,h2,h3,h4⟩:=ixN_seq hj
 have hl:=r.length
 have hn:=line63
 have I':Inv X pins σ (upd H p (.lst (xs.set j v))) { s with heap:=s.heap.update p (Obj.mapSeq (·.setIfInBounds j u)) }:=
  I.lstUpd hp ho (mapSeq_set its n j u) (r.set rv j) (by rw[List.length_set];exact hz) s.toks
 by_cases h0:0≤k
 ·have hk:k.toNat=j:=by
   rw[seqIndex_of h0 h4] at h1
   exact Option.some.inj h1
  exact PySem.W.ki_setAt ho h0 (by omega) (by rw[List.size_toArray,←hl];exact h4) (by rw[hk];exact⟨_,I',q⟩)
 ·have hk:(k+(its.toArray.size:Int)).toNat=j:=by
   rw[seqIndex_neg (by omega) h3] at h1
   rw[List.size_toArray,←hl]
   exact Option.some.inj h1
  exact PySem.W.ki_setBack ho (by omega) (by rw[List.size_toArray,←hl];exact h3) (by omega) (by rw[hk];exact⟨_,I',q⟩)
theorem slice_bounds (lo hi:Option Int) (n:Nat):(sliceBounds lo hi none n).1=((HT.sIx n 0 lo:Nat):Int)∧(sliceBounds lo hi none n).2.1=((HT.sIx n n hi:Nat):Int)∧(sliceBounds lo hi none n).2.2=1:=by
 refine⟨?_,?_,rfl⟩
 ·cases lo with
  |none=>simp[sliceBounds,HT.sIx]
  |some i=>
    simp only[sliceBounds,HT.sIx,Option.getD_none,show (1:Int) > 0 by decide,if_true]
    by_cases h:i<0
    ·simp only[h,if_true]<;>omega
    ·simp only[h,if_false]<;>omega
 ·cases hi with
  |none=>simp[sliceBounds,HT.sIx]
  |some i=>
    simp only[sliceBounds,HT.sIx,Option.getD_none,show (1:Int) > 0 by decide,if_true]
    by_cases h:i<0
    ·simp only[h,if_true]<;>omega
    ·simp only[h,if_false]<;>omega
theorem slicePick_cut(its:List Value)(lo hi:Option Int):slicePick its.toArray lo hi none=((its.drop (HT.sIx its.length 0 lo)).take (HT.sIx its.length its.length hi-HT.sIx its.length 0 lo)).toArray:=by
 obtain⟨h1,h2,h3⟩:=slice_bounds lo hi its.toArray.size
 unfold slicePick
 rw[h1,h2,h3]
 simp only[sliceRange_one,pick_run,List.size_toArray]<;>rfl
def rSlL(K:PySem.W.Frag):V->Option Int->Option Int->Hp->VK->Prop:=fun x lo hi H Q=>∃a xs,x=.ref a∧SqL K H a xs∧∀p,H p=none->Q (.ref p) (upd H p (.lst (cutV xs lo hi)))
theorem sl_list:SlR X (rSlL X.K):=by
 intro pins s σ H x v vl vu lo hi sl Q I rx hs pl pu h
 obtain⟨a,xs,rfl,hx,q⟩:=h
 cases rx
 obtain⟨its,r,ht,hz⟩:=I.list hx
 have hlen:=r.length
 refine⟨"list",_,slot_list_getitem.lookup,ht.isList.typeIs,?_⟩
 refine wpAny_getItem_list_slice ht.isList hs pl pu .none (by simp) ?_ (by rw[List.size_toArray]<;>omega)
 rw[slicePick_cut,←hlen]
 refine⟨.ref s.heap.objs.size,_,I.laid (t':=s.toks) (o:=.lst (cutV xs lo hi)) (fun b ob q=>Heap.get?_push_of_some _ q) (Nat.le_refl _) ?_,rfl,q _ (I.hok.fresh (Nat.le_refl _))⟩
 exact⟨Nat.le_trans (cutV_length xs lo hi) hz,_,0,(r.drop (HT.sIx xs.length 0 lo)).take (HT.sIx xs.length xs.length hi-HT.sIx xs.length 0 lo),Heap.get?_push_size _ rfl⟩
theorem call_len_seq:CallR X (.builtin "len") (fun xs H Q=>∃p ys,xs=[.ref p]∧(SqL X.K H p ys∨SqT X.K H p ys)∧Q (.int ys.length) H):=by
 intro pins s σ H xs us Q I r h
 obtain⟨p,ys,rfl,hq,q⟩:=h
 obtain⟨u,rfl,rx⟩:=vals1 r
 cases rx
 have hn:=line63
 rcases hq with hq | hq
 ·obtain⟨its,r',pl,hz⟩:=I.list hq
  have hlen:=r'.length
  exact Calls.call_len_list pl.isList (by simp only[List.size_toArray]<;>omega) ⟨.int ys.length,H,I.tok _,⟨s.toks+1,by rw[List.size_toArray,hlen]⟩,q⟩
 ·obtain⟨its,r',pl,hz⟩:=I.tuple hq
  have hlen:=r'.length
  exact len_tuple pl (by simp only[List.size_toArray]<;>omega) ⟨.int ys.length,H,I.tok _,⟨s.toks+1,by rw[List.size_toArray,hlen]⟩,q⟩
theorem call_len_str:CallR X (.builtin "len") (fun xs H Q=>∃z,xs=[.str z]∧z.length≤sizeLine∧Q (.int z.length) H):=by
 intro pins s σ H xs us Q I r h
 obtain⟨z,rfl,hz,q⟩:=h
 obtain⟨u,rfl,t,rfl⟩:=vals1 r
 have hn:=line63
 exact len_str (by omega) ⟨.int z.length,H,I.tok _,⟨_,rfl⟩,q⟩
theorem CallR.or(h:CallR X f r)(h':CallR X f r'):CallR X f (fun xs H Q=>r xs H Q∨r' xs H Q):=by
 intro pins s σ H xs us Q I rs q
 rcases q with q | q
 ·exact h pins s σ H xs us Q I rs q
 ·exact h' pins s σ H xs us Q I rs q
theorem call_list_of:CallR X (.type "list") (fun xs H Q=>∃ p ys,xs=[.ref p]∧(SqL X.K H p ys∨SqT X.K H p ys)∧∀ l,H l=none->Q (.ref l) (upd H l (.lst ys))):=by
 intro pins s σ H xs us Q I r h
 obtain⟨p,ys,rfl,hq,q⟩:=h
 obtain⟨u,rfl,rx⟩:=vals1 r
 cases rx
 have fin:∀(its:List Value),Vals ys its->ys.length≤sizeLine->∀(h':Heap) (c':Nat),(∀b o',s.heap.get? b=some o'->h'.get? b=some o')->
   h'.get? s.heap.objs.size=some { cls:=.type "list",dict:=none,data:=.seq its.toArray c',slots:=#[] }->EP X pins σ Q (.ref s.heap.objs.size) { s with heap:=h' }:=fun its r' hz h' c' kp e=>
  ⟨.ref s.heap.objs.size,_,I.laid (t':=s.toks) kp (Nat.le_refl _) (show ObjOk X.prog X.w _ h' _ (.lst ys) from⟨hz,its,c',r',e⟩),rfl,q _ (I.hok.fresh (Nat.le_refl _))⟩
 rcases hq with hq | hq
 ·obtain⟨its,r',pl,hz⟩:=I.list hq
  have hlen:=r'.length
  obtain⟨o,ho,hc,n,hd⟩:=pl.isList
  exact call_list_seq p (.inl rfl) ho hc hd (fun h' c' kp e=>fin its r' hz h' c' kp e) (by simp only[List.size_toArray]<;>omega)
 ·obtain⟨its,r',pl,hz⟩:=I.tuple hq
  have hlen:=r'.length
  obtain⟨o,ho,hc,n,hd⟩:=pl
  exact call_list_seq p (.inr rfl) ho hc hd (fun h' c' kp e=>fin its r' hz h' c' kp e) (by simp only[List.size_toArray]<;>omega)
theorem call_tuple_of:CallR X (.type "tuple") (fun xs H Q=>∃ p ys,xs=[.ref p]∧((SqL X.K H p ys∧∀ l,H l=none->Q (.ref l) (upd H l (.tup ys)))∨(SqT X.K H p ys∧Q (.ref p) H))):=by
 intro pins s σ H xs us Q I r h
 obtain⟨p,ys,rfl,h⟩:=h
 obtain⟨u,rfl,rx⟩:=vals1 r
 cases rx
 rcases h with ⟨hq,q⟩ | ⟨hq,q⟩
 ·obtain⟨its,r',pl,hz⟩:=I.list hq
  have hlen:=r'.length
  refine call_tuple_list pl.isList (fun h' kp=>?_) (by simp only[List.size_toArray]<;>omega)
  have I1:Inv X pins σ H { s with heap:=h' }:=I.kept (t':=s.toks) kp
  have I2:Inv X pins σ (upd H h'.objs.size (.tup ys)) { s with heap:=h'.push { cls:=.type "tuple",data:=.seq its.toArray } }:=
   I1.laid (t':=s.toks) (fun b o e=>Heap.get?_push_of_some _ e) (Nat.le_refl _) (show ObjOk X.prog X.w _ _ _ (.tup ys) from⟨hz,its,r',IsTup.new _ _⟩)
  exact⟨.ref h'.objs.size,_,I2,rfl,q _ (I1.hok.fresh (Nat.le_refl _))⟩
 ·obtain⟨its,r',pl,hz⟩:=I.tuple hq
  exact call_tuple_same pl ⟨.ref p,H,I,rfl,q⟩
def tyV (K:PySem.W.Frag) (T:String) (x:V) (H:Hp):Prop:=match x with
 |.str _=>T = "str"
 |.int _=>T = "int"
 |.ref p=>(T = "list"∧∃xs,SqL K H p xs)∨(T = "tuple"∧∃o,K.lookup p=some o∧o.cls=.type "tuple"∧o.dict=none) ∨
   (T = "dict"∧((∃kvs,H p=some (.dK kvs))∨∃kvs,H p=some (.dT kvs)))∨(T = "set"∧∃S n,H p=some (.set S n))
 |_=>False
theorem tyV_is (I:Inv X pins σ H s) (r:RelV x v) (ty:tyV X.K T x H) :
  s.TypeIs v T∧∀a,v=.ref a->∃ob,s.heap.get? a=some ob∧ob.dict=none:=by
 cases x with
 |str z=>
   obtain⟨t,rfl⟩:=r
   cases (show T = "str" from ty)
   exact⟨typeIs_str s z t,fun _ e=>nomatch e⟩
 |int i=>
   obtain⟨t,rfl⟩:=r
   cases (show T = "int" from ty)
   exact⟨typeIs_int s i t,fun _ e=>nomatch e⟩
 | ref p=>
   cases r
   rcases ty with ⟨rfl,xs,hq⟩ | ⟨rfl,o,hk,hc,hd⟩ | ⟨rfl,hk⟩ | ⟨rfl,S,n,hk⟩
   ·obtain⟨its,_,pl,_⟩:=I.list hq
    refine⟨pl.isList.typeIs,fun a e=>?_⟩
    cases e
    obtain⟨o,n,e,c,hd,_⟩:=pl
    exact⟨o,e,hd⟩
   ·refine⟨⟨o,I.kIn p o hk,hc⟩,fun a e=>?_⟩
    cases e
    exact⟨o,I.kIn _ o hk,hd⟩
   ·have z:∃ o,s.heap.get? p=some o∧o.ExactDict:=by
     rcases hk with ⟨kvs,hk⟩ | ⟨kvs,hk⟩
     ·obtain⟨_,_,_,_,o,_,_,e,ex,_⟩:=I.hok p _ hk
      exact⟨o,e,ex⟩
     ·obtain⟨_,_,_,_,o,_,_,e,ex,_⟩:=I.hok p _ hk
      exact⟨o,e,ex⟩
    obtain⟨o,e,ex⟩:=z
    refine⟨⟨o,e,ex.1⟩,fun a e2=>?_⟩
    cases e2
    exact⟨o,e,ex.2.1⟩
   ·obtain⟨o,_,_,_,e,ex,_⟩:=I.hok p _ hk
    refine⟨⟨o,e,ex.1⟩,fun a e2=>?_⟩
    cases e2
    exact⟨o,e,ex.2.1⟩
 |_=>exact False.elim ty
def tBM0(K:PySem.W.Frag)(T:String)(r:V->List V->Hp->VK->Prop)(to:TE):TE:=fun σ H Q=>to σ H fun x H1=>tyV K T x H1∧r x [] H1 Q
def tBM(K:PySem.W.Frag)(T:String)(r:V->List V->Hp->VK->Prop)(to:TE)(t:TA):TE:=fun σ H Q=>to σ H fun x H1=>tyV K T x H1∧t σ H1 fun xs H2=>r x xs H2 Q
variable{o e:Expr}{es:List Expr}{to:TE}{t:TA}{name:Str}{apos cpos:Pos}{T id:String}{r:V->List V->Hp->VK->Prop}
theorem pe_bm0(pa:PlainAttrs T)(slot:Slot T name id)(hty:typeOf (.builtin id)=pure (.type "method_descriptor"))(hm:MtR X id r)(ho:PE X o to)
  (hbase:attributeBase o name X.env (eval o X.env)=eval o X.env:=by rfl) (hline:(apos.endLine==cpos.line)=true:=by rfl):PE X (.Call (.Attribute o name apos) [] [] cpos) (tBM0 X.K T r to):=by
 intro pins s σ H Q I h
 refine wpAny_Call_method0_late hbase hline (thn (ho pins s σ H _ I h) fun v s1 ⟨x,H1,I1,r1,ty,q1⟩=>?_)
 obtain⟨h1,h2⟩:=tyV_is I1 r1 ty
 exact⟨T,id,pa,slot,hty,h1,h2,Calls.callWith_builtin rfl (PySem.evalArgs_none (hm pins s1 σ H1 x [] v [] Q I1 r1 .nil q1))⟩
theorem pe_bm (pa:PlainAttrs T) (slot:Slot T name id) (hty:typeOf (.builtin id)=pure (.type "method_descriptor")) (hm:MtR X id r) (ho:PE X o to) (ha:PA X (e::es) t)
  (hbase:attributeBase o name X.env (eval o X.env)=eval o X.env:=by rfl)
  (hfew:((backTo cpos (starEach (e::es) X.env)).all (fun x=>!x.1)&&(backToKw cpos (keywordEach [] X.env)).all (fun x=>x.1.isSome)
   &&decide ((e::es).length+([]:List Keyword).length+(if ([]:List Keyword).isEmpty then 0 else 1)<30))=true:=by rfl)
  (hline:(apos.endLine==cpos.line)=true:=by rfl) (hs:starEach (e::es) X.env=(false,eval e X.env)::starEach es X.env:=by rfl) (hplain:(backTo cpos (starEach es X.env)).any (·.1)=false:=by rfl) :
  PE X (.Call (.Attribute o name apos) (e::es) [] cpos) (tBM X.K T r to t):=by
 intro pins s σ H Q I h
 refine wpAny_Call_method_late hbase hfew hline rfl (thn (ho pins s σ H _ I h) fun v s1 ⟨x,H1,I1,r1,ty,q1⟩=>?_)
 obtain⟨h1,h2⟩:=tyV_is I1 r1 ty
 refine⟨T,id,pa,slot,hty,h1,h2,?_⟩
 have hA:=ha cpos pins s1 σ H1 _ I1 q1
 rw[hs] at hA ⊢
 refine Calls.callWith_builtin (by show (false || (backTo cpos (starEach es X.env)).any (·.1))=false;rw[hplain]<;>rfl) (Calls.evalArgs_plain ?_)
 exact thn hA fun us s2 ⟨vs,H2,I2,r2,q2⟩=>hm pins s2 σ H2 x vs v us Q I2 r1 r2 q2
end
open PySem PySem.Spec PyProof.Rows
def MtM (X:Cx) (id:String) (r:V->List V->Hp->VK->Prop):Prop:=
 ∀(pins:List (Addr×Obj)) (s:Shared) (σ:St) (H:Hp) (x:V) (xs:List V) (v:Value) (us:List Value) (Q:VK),Inv X pins σ H s->RelV x v->Vals xs us->r x xs H Q->
   wpAny (model X.prog X.w) X.A (call (.builtin id) (v::us)) (EP X pins σ Q) X.xe s
theorem Vals.one:∀{x:V}{us:List Value},Vals [x] us->∃u,us=[u]∧RelV x u
 |_,_,.cons r .nil=>⟨_,rfl,r⟩
theorem Vals.zero:∀{us:List Value},Vals [] us->us=[]
 |_,.nil=>rfl
theorem Vals.dropLast (h:Vals xs us):Vals xs.dropLast us.dropLast:=by
 induction h with
 |nil=>exact .nil
 |cons r t ih=>
   cases t with
   |nil=>exact .nil
   |cons q t'=>exact .cons r ih
theorem Vals.rep (h:Vals xs us):∀ k:Nat,Vals (List.replicate k xs).flatten (List.replicate k us).flatten
 |0=>.nil
 |k+1=>by
   rw[List.replicate_succ,List.replicate_succ,List.flatten_cons,List.flatten_cons]
   exact Vals.append h (Vals.rep h k)
theorem erase_last {α:Type} (l:List α):l.eraseIdx (l.length - 1)=l.dropLast:=by
 induction l with
 |nil=>rfl
 | cons a r ih=>
   cases r with
   |nil=>rfl
   | cons b r=>
     have e:(a::b::r).length-1=((b::r).length-1)+1:=by
      have h1:(a::b::r).length=r.length+2:=rfl
      have h2:(b::r).length=r.length+1:=rfl
      omega
     rw[e,List.eraseIdx_cons_succ,ih]
     all_goals rfl
theorem foldl_rep (its:List Value):∀ (k:Nat) (acc:List Value),
  List.foldl (fun x1 x2=>x1++x2) acc.toArray (List.replicate k its.toArray)=(acc++(List.replicate k its).flatten).toArray
 |0,acc=>by simp
 | k + 1,acc=>by
   have e:acc.toArray++its.toArray=(acc++its).toArray:=by simp
   have e2:(acc++its)++(List.replicate k its).flatten=acc++(List.replicate (k+1) its).flatten:=by
    rw[List.replicate_succ,List.flatten_cons,List.append_assoc]
   rw[←e2,←foldl_rep its k (acc++its),←e,List.replicate_succ,List.foldl_cons]
section
variable{X:Cx}{pins:List (Addr×Obj)}{σ:St}{H:Hp}{s:Shared}{l b:Addr}{xs ys zs:List V}
theorem Inv.lset{its its':List Value}{n:Nat}{f:Array Value->Array Value}{t':Nat}(I:Inv X pins σ H s)(hH:H l=some (.lst xs))
  (e:s.heap.get? l=some { cls:=.type "list",data:=.seq its.toArray n }) (hf:f its.toArray=its'.toArray) (hv:Vals ys its') (hz:ys.length≤sizeLine) :
  Inv X pins σ (upd H l (.lst ys)) { s with heap:=s.heap.update l (Obj.mapSeq f),toks:=t' }:=by
 have q:=PySem.IsL.update e f
 rw[hf] at q
 refine I.write (x:=l) (e:=l) (by rw[hH];exact trivial) (.inl rfl) (fun b' u hb hu=>(Heap.get?_update_other s.heap (Obj.mapSeq f) (Ne.symm hb)).trans hu) ⟨_,q⟩ ?_
 exact⟨hz,its',_,hv,q⟩
theorem Inv.lnew(I:Inv X pins σ H s)(hv:Vals ys its)(hz:ys.length≤sizeLine) :
  Inv X pins σ (upd H s.heap.objs.size (.lst ys)) { s with heap:=s.heap.push { cls:=.type "list",data:=.seq its.toArray },toks:=t' }:=
 I.laid (fun _ _ q=>Heap.get?_push_of_some _ q) (Nat.le_refl _) ⟨hz,its,0,hv,Heap.get?_push_size _ rfl⟩
theorem Inv.fresh(I:Inv X pins σ H s):H s.heap.objs.size=none:=I.hok.fresh (Nat.le_refl _)
theorem Inv.lstM(I:Inv X pins σ H s)(hH:H l=some (.lst xs)):xs.length≤sizeLine∧∃(its:List Value) (n:Nat),Vals xs its∧xs.length=its.length∧s.heap.get? l=some { cls:=.type "list",data:=.seq its.toArray n }:=by
 obtain⟨z,its,n,r,e⟩:=I.hok l _ hH
 exact⟨z,its,n,r,r.length,e⟩
theorem notLongL{n:Nat}(h:n≤sizeLine):Builtin.List.listTooLong n=false:=by
 unfold Builtin.List.listTooLong
 exact decide_eq_false (by omega)
end
section
variable{X:Cx}
def rAppend:V->List V->Hp->VK->Prop:=fun x vs H Q=>∃l xs y,x=.ref l∧vs=[y]∧H l=some (.lst xs)∧xs.length<sizeLine∧Q .non (upd H l (.lst (xs++[y])))
theorem mt_append:MtM X "list.append" rAppend:=by
 intro pins s σ H x vs v us Q I rx rv h
 obtain⟨l,xs,y,rfl,rfl,hH,hz,q⟩:=h
 cases rx
 obtain⟨u,rfl,ru⟩:=rv.one
 obtain⟨z,its,n,r,hl,e⟩:=I.lstM hH
 refine call_meets F.slot_list_append ⟨_,e,rfl⟩ F.entry_list_append (F.args_list_append_2 _ _) (PySem.list_append l its.toArray n u (by rw[List.size_toArray];omega)) ⟨e,?_⟩
 refine⟨.non,_,I.lset (its':=its++[u]) hH e (by simp) (r.append (.cons ru .nil)) ?_,rfl,q⟩
 rw[List.length_append,List.length_singleton]
 omega
def rExtend:V->List V->Hp->VK->Prop:=fun x vs H Q=>∃l b xs zs,x=.ref l∧vs=[.ref b]∧H l=some (.lst xs)∧H b=some (.lst zs)∧xs.length+zs.length≤sizeLine∧Q .non (upd H l (.lst (xs++zs)))
theorem mt_extend:MtM X "list.extend" rExtend:=by
 intro pins s σ H x vs v us Q I rx rv h
 obtain⟨l,b,xs,zs,rfl,rfl,hH,hB,hz,q⟩:=h
 cases rx
 obtain⟨u,rfl,ru⟩:=rv.one
 cases ru
 obtain⟨z,its,n,r,hl,e⟩:=I.lstM hH
 obtain⟨z2,its2,n2,r2,hl2,e2⟩:=I.lstM hB
 have hsz:its.toArray.size+its2.toArray.size≤sizeLine:=by rw[List.size_toArray,List.size_toArray];omega
 have hlong:¬ (!its.toArray.isEmpty&&Builtin.List.listTooLong (its.toArray.size+its2.toArray.size))=true:=by
  rw[notLongL hsz,Bool.and_false]
  exact Bool.false_ne_true
 refine call_meets F.slot_list_extend ⟨_,e,rfl⟩ F.entry_list_extend (F.args_list_extend_2 _ _)
  (AutoSeq1.list_extend_list_list_0 l its.toArray n b its2.toArray n2 hlong (by rw[List.size_toArray];omega) (by omega)) ⟨e,e2,?_⟩
 refine⟨.non,_,I.lset (its':=its++its2) hH e (by simp) (r.append r2) ?_,rfl,q⟩
 rw[List.length_append]
 omega
def rPop:V->List V->Hp->VK->Prop:=fun x vs H Q=>∃l xs y,x=.ref l∧vs=[]∧H l=some (.lst xs)∧xs[xs.length-1]?=some y∧Q y (upd H l (.lst xs.dropLast))
theorem mt_pop:MtM X "list.pop" rPop:=by
 intro pins s σ H x vs v us Q I rx rv h
 obtain⟨l,xs,y,rfl,rfl,hH,hy,q⟩:=h
 cases rx
 have hus:=rv.zero
 subst hus
 obtain⟨z,its,n,r,hl,e⟩:=I.lstM hH
 obtain⟨u,hu,ru⟩:=r.get hy
 have hy':its.toArray[its.toArray.size-1]?=some u:=by
  show its.toArray[its.length-1]?=some u
  rw[←Array.getElem?_toList,←hl]
  exact hu
 refine call_meets F.slot_list_pop ⟨_,e,rfl⟩ F.entry_list_pop (F.args_list_pop_1 _) (MeetsSeq.list_pop_last l its.toArray n u hy' (by rw[List.size_toArray];omega)) ⟨e,?_⟩
 refine⟨y,_,I.lset (its':=its.dropLast) hH e ?_ r.dropLast ?_,ru,q⟩
 ·show its.toArray.eraseIdxIfInBounds (its.toArray.size-1)=its.dropLast.toArray
  rw[List.size_toArray,List.eraseIdxIfInBounds_toArray,erase_last]
 ·rw[List.length_dropLast]
  omega
def rCat:R2:=fun x y H Q=>∃l b xs zs,x=.ref l∧y=.ref b∧H l=some (.lst xs)∧H b=some (.lst zs)∧xs.length+zs.length≤sizeLine∧∀p,H p=none->Q (.ref p) (upd H p (.lst (xs++zs)))
theorem op_cat:OpR X (binaryOp .Add) rCat:=by
 intro pins s σ H x y v u Q I rx ry h
 obtain⟨l,b,xs,zs,rfl,rfl,hH,hB,hz,q⟩:=h
 cases rx
 cases ry
 obtain⟨z,its,n,r,hl,e⟩:=I.lstM hH
 obtain⟨z2,its2,n2,r2,hl2,e2⟩:=I.lstM hB
 refine PySem.P.add_list e e2 ?_ (by rw[List.size_toArray,List.size_toArray];omega)
 have ea:its.toArray++its2.toArray=(its++its2).toArray:=by simp
 rw[ea]
 exact⟨.ref _,_,I.lnew (t':=s.toks) (r.append r2) (by rw[List.length_append];omega),rfl,q _ I.fresh⟩
def rRep:R2:=fun x y H Q=>∃l k xs,x=.ref l∧y=.int k∧H l=some (.lst xs)∧-(2^63)≤k∧k<2^63∧xs.length*k.toNat≤sizeLine ∧
 ∀p,H p=none->Q (.ref p) (upd H p (.lst (List.replicate k.toNat xs).flatten))
theorem len_rep(xs:List α)(k:Nat):(List.replicate k xs).flatten.length=k*xs.length:=by
 induction k with
 |zero=>simp
 |succ k ih=>rw[List.replicate_succ,List.flatten_cons,List.length_append,ih,Nat.succ_mul,Nat.add_comm]
theorem op_rep:OpR X (binaryOp .Mult) rRep:=by
 intro pins s σ H x y v u Q I rx ry h
 obtain⟨l,k,xs,rfl,rfl,hH,h1,h2,hz,q⟩:=h
 cases rx
 obtain⟨t,rfl⟩:=ry
 obtain⟨z,its,n,r,hl,e⟩:=I.lstM hH
 have hlen:its.toArray.size*k.toNat≤sizeLine:=by rw[List.size_toArray,←hl];exact hz
 have hcap:¬ its.toArray.size*k.toNat > (2^63-1) / 8:=by
  have:(sizeLine:Nat)≤(2^63-1) / 8:=by decide
  omega
 have hfit:¬ (!Builtin.List.listFitsIndex k)=true:=by
  rw[fitsIndex_both h1 h2]
  exact Bool.false_ne_true
 have hlong:¬ Builtin.List.listTooLong (its.toArray.size*k.toNat)=true:=by
  rw[notLongL hlen]
  exact Bool.false_ne_true
 have hnew:List.foldl (fun x1 x2=>x1++x2) #[] (List.replicate (if its.toArray.isEmpty=true then 0 else k.toNat) its.toArray)=(List.replicate k.toNat its).flatten.toArray:=by
  have f0:∀m:Nat,List.foldl (fun x1 x2=>x1++x2) #[] (List.replicate m its.toArray)=(List.replicate m its).flatten.toArray:=fun m=>by
   have:=foldl_rep its m []
   rw[List.nil_append] at this
   exact this
  rw[f0]
  cases its with
  |nil=>simp
  |cons a r'=>rw[if_neg (by simp)]
 refine wpAny_binaryOp_repeat_ref (T := "list") (U := "int") (by decide) ⟨_,e,rfl⟩ (fun s'=>typeIs_int s' k t) noFill_list_mul F.fills_int_mul F.slot_int_rmul repeat_list F.slot_int_index.lookup
  (call_meets F.slot_int_rmul (typeIs_int s k t) F.entry_int_rmul (F.args_int_rmul_2 _ _) (int___rmul___int_list k t l its.toArray n)
    ⟨e,rfl,⟨_,e,rfl⟩,call_meets F.slot_list_mul ⟨_,e,rfl⟩ F.entry_list_mul (F.args_list_mul_2 _ _) (AutoListH.list___mul___list_int_3 l its.toArray n k t hfit hcap hlong) ⟨e,?_⟩⟩)
 rw[hnew]
 exact⟨.ref _,_,I.lnew (t':=s.toks) (r.rep k.toNat) (by rw[len_rep,Nat.mul_comm];exact hz),rfl,q _ I.fresh⟩
end
end L2
namespace Att
open PySem PySem.W PySem.Calls PyProof.Rows
theorem ints_of_wellAll:∀ (ns:List Int) (vs:List Value),WellAll P h vs (ns.map WData.int)->IntsAre vs ns:=by
 intro ns
 induction ns with
 |nil=>
   intro vs w
   rw[List.map_nil] at w
   cases w
   exact .nil
 | cons n ns ih=>
   intro vs w
   rw[List.map_cons] at w
   cases w with
   |cons a b=>
     cases a
     exact .cons _ _ (ih _ b)
theorem script_of {l:OpenLaw}{n:Nat} (hn:l.most=some n) {P:Params}{h:Heap}{args:List WData}{vals:List Value}
  (hpre:l.row.toRowW.claim.pre args=true) (hwl:WellAll P h vals args) :
  ∃a vs ns,vals=[Value.ref a]∧args=[WData.list (ns.map WData.int)]∧h.get? a=some { cls:=.type "list",data:=.seq vs.toArray }∧IntsAre vs ns∧ns.length≤n:=by
 have hsh:WShape.hasAll [] args [.list .int]=true:=(pre_splitW hpre).1
 have hc:l.pre.holds [] { args:=args }=true:=(pre_splitW hpre).2
 obtain⟨d,r,rfl,h1,h2⟩:=hasAllW_cons hsh
 obtain rfl:=hasAllW_nil h2
 obtain⟨xs,rfl,h3⟩:=hasW_list h1
 obtain⟨ns,rfl⟩:=items_int h3
 have hlen:ns.length≤n:=by
  unfold OpenLaw.pre at hc
  have h4:(WTm.not (.lt (.lit (.int (n:Int))) (.len (.arg 0)))).holds [] { args:=[.list (ns.map .int)] }=true:=by
   have h4:=(holds_andW hc).1
   rw[hn] at h4
   exact h4
  have h5:=condW_of h4 (w_not (w_lt w_lit (w_len_list (w_arg rfl))))
  rw[List.length_map] at h5
  refine Nat.le_of_not_lt fun q=>?_
  have q':(n:Int)<((ns.length:Nat):Int):=by omega
  first
   |(rw[decide_eq_true q'] at h5;exact absurd h5 (by decide))
   |(simp at h5;omega)
 cases hwl with
 |cons w1 w2=>
   cases w2
   cases w1 with
   |list ho hall=>exact⟨_,_,ns,rfl,rfl,ho,ints_of_wellAll ns _ hall,hlen⟩
theorem post_true(l:OpenLaw)(args:List WData):l.row.toRowW.claim.post args (.bool true) args=true:=
 postW_of (r:=l.row.toRowW) (X:=(true==true))
  (show WShape.has [] (.bool true) .bool=true by first | rfl | decide | simp[WShape.has,WShape.arms,WShape.armsAll])
  (show (WTm.eq .res (.lit (.bool true))).value [] { args:=args,res:=some (.bool true),after:=args }=some (.bool (true==true)) from w_eq_bool (w_res rfl) w_lit) rfl
theorem attach_call {l:OpenLaw}{n:Nat}{q:Program}{loose:List Str}{XP:(Str->Option Value)->Heap->Prop}{YP:World->Heap->Prop}{d:DefRec}
  (hn:l.most=some n) (hdf:d.params.defaults=[])
  (call:∀(w:World) (s₀ s₁:Shared) (mg mb:Str->Option Value) (fa:Addr) (o:Obj) (pm cd doc:Value) (a:Addr) (vs:List Value) (ns:List Int),
    Ground q loose [] XP w s₀ mg mb s₁.heap->YP w s₁.heap->
    s₁.heap.get? fa=some o->o.data=.func (docDef d.name d.params d.body d.scope pm cd doc)->s₁.heap.CodeRec cd d.name->mg d.name=some (.ref fa)->
    s₁.heap.get? a=some { cls:=.type "list",data:=.seq vs.toArray }->IntsAre vs ns->ns.length≤n->s₁.gens=#[]->
    codeAny (model l.prog w) callerA (.call (.ref fa) ⟨[.ref a],[]⟩) (fun r s'=>r=.ok (.ret (.bool true))∧OldK s₁.heap s'.heap∧s'.os=s₁.os∧AllBare s'.gens) s₁) :
  WalkO q loose XP YP l.row.toRowW d [] (fun f vs=>PySem.call f vs):=by
 intro w s₀ s₁ mg mb G Y fa o pm cd doc dV kV ho hd hcd hD hmg hg args vals as hpre hlay hrd hwl hlo
 obtain rfl:dV=.none:=Dflts.none hD hdf
 obtain rfl:kV=.none:=Dflts.noKw hD
 obtain⟨a,vs,ns,rfl,rfl,hobj,hints,hlen⟩:=script_of hn hpre hwl
 refine enter_call (codeAny_mono (call w s₀ s₁ mg mb fa o pm cd doc a vs ns G Y ho (fd_plain hd) hcd hmg hobj hints hlen hg) fun r s' hq=>?_)
 obtain⟨rfl,h2,h3,h4⟩:=hq
 exact⟨.inl ⟨.bool true,.bool true,[],rfl,fun _=>rfl,.bool true,post_true l _,fun _=>⟨List.Pairwise.nil,fun _ hm=>(nomatch hm)⟩⟩,h2,h3,h4⟩
end Att
namespace L2
open PySem PySem.Spec PyProof.Rows
theorem vals_ints:∀{vs:List Value}{ns:List Int},IntsAre vs ns->Vals (ns.map V.int) vs
 |_,_,.nil=>.nil
 |_,_,.cons n t h=>.cons ⟨t,rfl⟩ (vals_ints h)
open PySem PySem.Spec PyProof.Rows
open PySem PySem.Spec PyProof.Rows
def inClass(s:Stmt)(j:Nat):Stmt:=match s with
 |.ClassDef _ _ _ body _ _ _ _ _ _ _=>body.getD j (.Pass ⟨0,0,0,0⟩)
 |_=>.Pass ⟨0,0,0,0⟩
def defArgs(s:Stmt):Arguments:=match s with
 |.FunctionDef _ a _ _ _ _ _ _ _ _=>a
 |_=>{ posonlyargs:=[],args:=[],vararg:=none,kwonlyargs:=[],kw_defaults:=[],kwarg:=none,defaults:=[] }
def defBody(s:Stmt):List Stmt:=match s with
 |.FunctionDef _ _ b _ _ _ _ _ _ _=>b
 |_=>[]
def defScope(s:Stmt):Scope:=match s with
 |.FunctionDef _ _ _ _ _ _ sc _ _ _=>sc
 |_=>{ kind:=.function,names:=[],isGenerator:=false,isCoroutine:=false }
abbrev E0:XK:=fun _ _ _=>False
structure Fun(K:PySem.W.Frag)(x qual:Str)(st:Stmt)(f:Addr)(fd:FuncData):Prop where
 ex:∃(oc:Value) (od:Option Addr) (kV doc pm:Value) (an:Option Addr) (cdv ct:Value) (osl:Array (Option Value)),
  fd=PySem.W.fnOf x qual (defArgs st) (defBody st) (defScope st) .none kV doc pm an cdv ct∧K.lookup f=some ⟨oc,od,.func fd,osl⟩∧PySem.W.codeIn K cdv qual=true
 kp:PySem.W.keepIn K (.ref f)=true
section
variable{P:Program}{w:World}{K:PySem.W.Frag}{mg:Str->Option Value}{base:Heap}
theorem Fun.binds{x qual:Str}{st:Stmt}{f:Addr}{fd:FuncData}{ps:List Str}(F:Fun K x qual st f fd)
  (h:∀(kV doc pm:Value) (an:Option Addr) (cdv ct:Value) (us:List Value),us.length=ps.length->bindArgs (PySem.W.fnOf x qual (defArgs st) (defBody st) (defScope st) .none kV doc pm an cdv ct) ⟨us,[]⟩=pure (ps.zip us)):Binds K fd ps []:=by
 obtain⟨oc,od,kV,doc,pm,an,cdv,ct,osl,rfl,lk,hcd⟩:=F.ex
 exact .all (h kV doc pm an cdv ct)
theorem fun_mk{x qual:Str}{st:Stmt}{f:Addr}{oc:Value}{od an:Option Addr}{osl:Array (Option Value)}{kV doc pm cdv ct:Value}(l:K.lookup f=some ⟨oc,od,.func (PySem.W.fnOf x qual (defArgs st) (defBody st) (defScope st) .none kV doc pm an cdv ct),osl⟩)
  (c:PySem.W.codeIn K cdv qual=true) (k:PySem.W.keepIn K (.ref f)=true):Fun K x qual st f (PySem.W.fnOf x qual (defArgs st) (defBody st) (defScope st) .none kV doc pm an cdv ct):=⟨⟨oc,od,kV,doc,pm,an,cdv,ct,osl,rfl,l,c⟩,k⟩
end
theorem iteF{A B:Prop}(h:B):if false=true then A else B:=by
 rw[if_neg Bool.false_ne_true]
 exact h
theorem iteT{A B:Prop}(h:A):if true=true then A else B:=by
 rw[if_pos rfl]
 exact h
def Same(H H':Hp):Prop:=∀b o,H b=some o->H' b=some o
theorem Same.refl(H:Hp):Same H H:=fun _ _ h=>h
mutual
inductive Rep(K:PySem.W.Frag)(H:Hp):V->PyData->Prop
 |non:Rep K H .non .none
 |bl (b:Bool):Rep K H (.bl b) (.bool b)
 |int (i:Int):Rep K H (.int i) (.int i)
 |str (x:Str):Rep K H (.str x) (.str x)
 |lst {a:Addr}{xs:List V}{ds:List PyData}:SqL K H a xs->Reps K H xs ds->Rep K H (.ref a) (.list ds)
 |tup {a:Addr}{xs:List V}{ds:List PyData}:SqT K H a xs->Reps K H xs ds->Rep K H (.ref a) (.tuple ds)
inductive Reps(K:PySem.W.Frag)(H:Hp):List V->List PyData->Prop
 |nil:Reps K H [] []
 |cons {v:V}{d:PyData}{vs:List V}{ds:List PyData}:Rep K H v d->Reps K H vs ds->Reps K H (v::vs) (d::ds)
end
section
variable{X:Cx}{pins:List (Addr×Obj)}{σ:St}{H:Hp}{s:Shared}
theorem Rep.reads (I:Inv X pins σ H s) {v:V}{d:PyData}{u:Value} (h:Rep X.K H v d):RelV v u->∃ as,Reads s.heap u d as:=
 Rep.rec (motive_1:=fun v d _=>∀ u,RelV v u->∃ as,Reads s.heap u d as) (motive_2:=fun vs ds _=>∀ us,Vals vs us->∃ as,ReadsAll s.heap us ds as)
  (fun u r=>by cases r;exact⟨_,.none⟩)
  (fun b u r=>by cases r;exact⟨_,.bool b⟩)
  (fun i u r=>by obtain⟨t,rfl⟩:=r;exact⟨_,.int i t⟩)
  (fun i u r=>by obtain⟨t,rfl⟩:=r;exact⟨_,.str i t⟩)
  (fun h hs ih u r=>by
    cases r
    obtain⟨its,rv,⟨o,n,h1,h2,_,h3⟩,_⟩:=I.list h
    obtain⟨as,ra⟩:=ih _ rv
    exact⟨_,.list h1 h2 h3 ra⟩)
  (fun h hs ih u r=>by
    cases r
    obtain⟨its,rv,⟨o,h1,h2,n,h3⟩,_⟩:=I.tuple h
    obtain⟨as,ra⟩:=ih _ rv
    exact⟨_,.tuple h1 h2 h3 ra⟩)
  (fun u r=>by cases r;exact⟨_,.nil⟩)
  (fun h hs i1 i2 u r=>by
    cases r with
    |cons r1 r2=>
      obtain⟨a1,e1⟩:=i1 _ r1
      obtain⟨a2,e2⟩:=i2 _ r2
      exact⟨_,.cons e1 e2⟩)
  h u
end
theorem same_new{H:Hp}{p:Addr}(h:H p=none)(o:HO):Same H (upd H p o):=fun b u q=>by rw[upd_ne (ne_of_none q h)];exact q
section
variable{X:Cx}
def Fe(K:PySem.W.Frag)(neg:Bool):R2:=fun x y H Q=>∃da db,Rep K H x da∧Rep K H y db∧da.canLay0=true∧db.canLay0=true∧da.depth≤60∧Q (.bl (if neg then !PyData.eqv da db else PyData.eqv da db)) H
theorem JT(hu:X.A.units+64<cLine):OpR X (compareOp .Eq) (Fe X.K false):=by
 intro pins s σ H x y v u Q I rx ry h
 obtain⟨da,db,ha,hb,la,lb,hd,q⟩:=h
 obtain⟨as,ra⟩:=ha.reads I rx
 obtain⟨bs,rb⟩:=hb.reads I ry
 exact PySem.SeqAt.compareEq_reads ra rb la lb (by lia) ⟨.bl _,H,I,rfl,q⟩
theorem JX(hu:X.A.units+64<cLine):OpR X (compareOp .NotEq) (Fe X.K true):=by
 intro pins s σ H x y v u Q I rx ry h
 obtain⟨da,db,ha,hb,la,lb,hd,q⟩:=h
 obtain⟨as,ra⟩:=ha.reads I rx
 obtain⟨bs,rb⟩:=hb.reads I ry
 exact PySem.SeqAt.compareNe_reads ra rb la lb (by lia) ⟨.bl _,H,I,rfl,q⟩
def KR(i j:Int):Prop:=IntMulOk i j
theorem Hf:OpR X (binaryOp .Mult) (rI KR fun i j=>.int (i*j)):=opI fun _ _ _ _ _ _ _ hc q=>mul_int q hc
theorem Dy:CallR X (.builtin "isinstance") (fun xs H Q=>∃x t c b,xs=[x,.ty c]∧TyOf X.K H x t∧PySem.W.kitOne X.K t (.type c)=some b∧Q (.bl b) H):=by
 intro pins s σ H xs us Q I r h
 obtain⟨x,t,c,b,rfl,ty,e,q⟩:=h
 obtain⟨u,w',rfl,r1,r2⟩:=vals2 r
 cases r2
 exact isinst_ok I r1 ty e fun tk=>⟨.bl b,H,I.tok _,rfl,q⟩
end
open PySem PySem.Spec PyProof.Rows
structure DefAt(K:PySem.W.Frag)(mg:Str->Option Value)(x:Str)(st:Stmt):Prop where
 ex:∃f fd,Fun K x x st f fd∧mg x=some (.ref f)
theorem Eg{K:PySem.W.Frag}{h:Heap}{mg:Str->Option Value}{x:Str}{st:Stmt}{f:Addr}{oc:Value}{od an:Option Addr}{osl:Array (Option Value)}{kV doc pm cdv ct:Value}(X:K.In h)(G:h.Ns mainGlobals mg)
  (a:PySem.W.nsIn K mainGlobals x=some (some (.ref f))) (l:K.lookup f=some ⟨oc,od,.func (PySem.W.fnOf x x (defArgs st) (defBody st) (defScope st) .none kV doc pm an cdv ct),osl⟩) (c:PySem.W.codeIn K cdv x=true) (k:PySem.W.keepIn K (.ref f)=true):DefAt K mg x st:=
 ⟨f,_,fun_mk l c k,PySem.W.mg_of X G a⟩
section
variable{X:Cx}{j k:Nat}{ps:List Str}{sp:Sp}{x:Str}{p pos:Pos}{e:Expr}{es:List Expr}{t:TA}
theorem Ni{id:String}{r:List V->Hp->VK->Prop}(hc:CallR X (.builtin id) r)(hm:X.mg x=none)(ha:PA X (e::es) t)(hg:Gl X x:=by rfl)(hv:bootBuiltins x=some (.builtin id):=by decide +kernel)(hn:x≠"__name__":=by decide)(hdb:(x==("__debug__":Str))=false:=by decide)
  (he:starEach (e::es) X.env=(false,eval e X.env)::starEach es X.env:=by rfl) (hpl:(backTo pos (starEach es X.env)).any (·.1)=false:=by rfl) :
  PE X (.Call (.Name x p) (e::es) [] pos) (tCB r t):=pe_callB hc hg hm hv ha hn hdb he hpl
theorem Lq{T:String}(hm:X.mg x=none)(hg:Gl X x:=by rfl)(hv:bootBuiltins x=some (.type T):=by decide +kernel)(hn:x≠"__name__":=by decide)(hdb:(x==("__debug__":Str))=false:=by decide):PE X (.Name x pos) (tC (.ty T)):=
 pe_bltn hg hm hv rfl hn hdb
end
end L2
namespace L2
open PySem PySem.Spec PyProof.Rows
open PySem PySem.Spec PyProof.Rows
theorem ObjOk.there(x:ObjOk P w H h a o):∃u,h.get? a=some u:=by
 induction o with
 |lst xs=>obtain⟨_,_,_,_,e⟩:=x;exact⟨_,e⟩
 |tup xs=>obtain⟨_,_,_,o,e,_⟩:=x;exact⟨_,e⟩
 |dK kvs=>obtain⟨_,_,_,_,o,_,_,e,_⟩:=x;exact⟨_,e⟩
 |dT kvs=>obtain⟨_,_,_,_,o,_,_,e,_⟩:=x;exact⟨_,e⟩
 |set S n=>obtain⟨o,_,_,_,e,_⟩:=x;exact⟨_,e⟩
 |ins C dx fs=>obtain⟨_,_,_,e,_⟩:=x;exact⟨_,e⟩
 |own y=>exact x
 |xd fs=>obtain⟨_,⟨o,es,ep,e,_⟩,_⟩:=x;first | exact⟨_,e⟩ | exact⟨o,es⟩
 |met g y=>exact⟨_,x⟩
 |rng lo hi=>obtain⟨_,_,_,e⟩:=x;exact⟨_,e⟩
 |frz o u ih=>exact⟨_,x.1⟩
 |tbl ps=>obtain⟨_,e,_⟩:=x;exact⟨_,e⟩
 |ext φ=>exact x.2.1
end L2
namespace L2
open PySem PySem.Spec PyProof.Rows
def bM (P:Program) (w:World):CXT:=fun outer H s E e s'=>
 ∃(x:Addr) (C a0:Value) (H':Hp) (B:Heap),e=.ref x∧s'.os=s.os∧AllBare s'.gens∧Un (frs outer) [] H H' s.heap s'.heap∧HOk P w H' s'.heap∧Heap.FlyingW B outer x C a0 s'.heap ∧
   (∀b,H' b≠none->∃o,B.get? b=some o)∧(∀b o,s.heap.get? b=some o->b∉frs outer->∃o',B.get? b=some o')∧E C none H'
theorem qF{env:Env}{l:List Env}{L:Addr}(h:env.frame=some L):frs (env::l)=L::frs l:=by
 unfold frs;rw[List.filterMap_cons,h]
theorem pQ {fs:List Addr}{H H':Hp}{h0 h h' B:Heap} (u:Un fs [] H H' h0 h) (hB:B.StaysIn h) (hB':B.StaysIn h') (up:h.UpToSlots h')
  (fr:∀b∈fs,∃o,h.get? b=some o∧∀vs,o.data≠.fields vs) (cov:∀b o,h0.get? b=some o->b∉fs->∃o',B.get? b=some o'):Un fs [] H H' h0 h' where
 keep b o e n hb hx:=by
  have h1:=u.keep b o e n hb hx
  obtain⟨o',e'⟩:=cov b o e hb
  have h2:=hB b o' e'
  rw[h1] at h2;cases h2
  exact hB' b o e'
 slot b o e n hb hx:=by
  obtain⟨sl,h1⟩:=u.slot b o e n hb hx
  obtain⟨o1,h2,nf⟩:=fr b hb
  rw[h1] at h2;cases h2
  obtain⟨sl2,h3⟩:=up b _ h1 nf
  exact⟨sl2,h3⟩
 free:=u.free
 there b o e hx:=by
  by_cases hb:b∈fs
  ·obtain⟨o1,h2,nf⟩:=fr b hb
   obtain⟨sl2,h3⟩:=up b _ h2 nf
   exact⟨_,h3⟩
  ·obtain⟨o',e'⟩:=cov b o e hb
   exact⟨o',hB' b o' e'⟩
 tups:=u.tups
 frzs:=u.frzs
 tbls:=u.tbls
theorem lY {P:Program}{w:World}{H':Hp}{h h' B:Heap} (ok:HOk P w H' h) (hB:B.StaysIn h) (hB':B.StaysIn h') (cov:∀ b,H' b≠none->∃ o,B.get? b=some o):HOk P w H' h':=fun a o e=>
 (ok a o e).stay (fun b u hb hu=>by
   have hn:H' b≠none:=by
    rcases hb with rfl | hb
    ·rw[e];simp
    ·rw[hb];simp
   obtain⟨o',e'⟩:=cov b hn
   have:=hB b o' e'
   rw[hu] at this;cases this
   exact hB' b u e') (fun _ h=>h) (fun _ _ h=>h)
section
variable{P:Program}{w:World}{K:PySem.W.Frag}{mg:Str->Option Value}{base:Heap}{N:List Str}{qual:Str}{scope:Scope}{f:Addr}{cd:Value}{A:Around}{outer:List Env}{s:Shared}{H:Hp}{E:XK}
abbrev bO(P:Program)(w:World)(K:PySem.W.Frag)(mg:Str->Option Value)(base:Heap)(N:List Str)(qual:Str)(scope:Scope)(f:Addr)(cd:Value)(A:Around)(outer:List Env)(s:Shared)(H:Hp)(E:XK):Cx:=
 cxOf (bM P w) P w K mg base N qual scope f cd A outer s H E
theorem aJ:Passes (bM P w) (bO P w K mg base N qual scope f cd A outer s H E) E:=by
 intro pins σ H1 s1 e s' I hf
 obtain⟨x,C,a0,H',B,rfl,os,bare,un,hok,fl,ci,cii,q⟩:=hf
 have J:Inv (bO P w K mg base N qual scope f cd A outer s H E) pins σ H' s':=I.call' (ch:=[]) os un hok bare (fun b z=>absurd z (by simp))
 have hfr:(bO P w K mg base N qual scope f cd A outer s H E).A.frames=some ((bO P w K mg base N qual scope f cd A outer s H E).env::outer):=I.ok.frames
 have hfs:∀b∈frs outer,∃o,s'.heap.get? b=some o∧∀vs,o.data≠.fields vs:=fun b hb=>(fl.2.2.1.2.2.mem hb).2
 have hfrm:(bO P w K mg base N qual scope f cd A outer s H E).env.frame=some (bO P w K mg base N qual scope f cd A outer s H E).env.locals:=rfl
 have cov:∀b o,s.heap.get? b=some o->b∉frs outer->∃o',B.get? b=some o':=fun b o e hb=>by
  obtain⟨o1,h1⟩:=I.base.there b o e (show b∉([]:List Addr) by simp)
  refine cii b o1 h1 ?_
  show b∉frs ((bO P w K mg base N qual scope f cd A outer s H E).env::outer)
  rw[qF hfrm]
  intro hm
  rcases List.mem_cons.mp hm with rfl | hm
  ·exact absurd (Heap.lt_size e) (Nat.not_lt.mpr I.ok.above)
  ·exact hb hm
 show wpAny _ _ (leaving _ (.ref x)) _ _ s'
 refine wpAny_leaves_onW hfr rfl fl fun h' fl' up=>?_
 exact⟨x,C,a0,H',B,rfl,J.os,bare,pQ J.base fl.1 fl'.1 up hfs cov,lY hok fl.1 fl'.1 ci,fl',ci,cov,q⟩
theorem Km {pins:List (Addr×Obj)}{σ:St}{H1:Hp}{s1:Shared}{h1:Heap}{e:Addr}{C:Value}{args:List Value} (I:Inv (bO P w K mg base N qual scope f cd A outer s H E) pins σ H1 s1)
  (hx:Heap.MadeExcOf s1.heap h1 e C args) (q:E C none H1):(bO P w K mg base N qual scope f cd A outer s H E).xe (.ref e) { s1 with heap:=h1 }:=by
 have hfr:(bO P w K mg base N qual scope f cd A outer s H E).A.frames=some ((bO P w K mg base N qual scope f cd A outer s H E).env::outer):=I.ok.frames
 have hfrm:(bO P w K mg base N qual scope f cd A outer s H E).env.frame=some (bO P w K mg base N qual scope f cd A outer s H E).env.locals:=rfl
 have ff:s1.heap.FunFrames base ((bO P w K mg base N qual scope f cd A outer s H E).env::outer):=I.stack
 have hin:∀env∈((bO P w K mg base N qual scope f cd A outer s H E).env::outer),∀b,env.frame=some b->b∈frs ((bO P w K mg base N qual scope f cd A outer s H E).env::outer):=fun env he b hb=>List.mem_filterMap.mpr ⟨env,he,hb⟩
 have hst:(PySem.W.hideAll s1.heap (frs ((bO P w K mg base N qual scope f cd A outer s H E).env::outer))).StaysIn s1.heap:=fun b o q=>PySem.W.of_hideAll _ q
 have cov:∀b o,s.heap.get? b=some o->b∉frs outer->∃o',(PySem.W.hideAll s1.heap (frs ((bO P w K mg base N qual scope f cd A outer s H E).env::outer))).get? b=some o':=fun b o e hb=>by
  obtain⟨o1,h1⟩:=I.base.there b o e (show b∉([]:List Addr) by simp)
  refine⟨o1,PySem.W.hideAll_get _ h1 ?_⟩
  rw[qF hfrm]
  intro hm
  rcases List.mem_cons.mp hm with rfl | hm
  ·exact absurd (Heap.lt_size e) (Nat.not_lt.mpr I.ok.above)
  ·exact hb hm
 have ci:∀ b,H1 b≠none->∃ o,(PySem.W.hideAll s1.heap (frs ((bO P w K mg base N qual scope f cd A outer s H E).env::outer))).get? b=some o:=fun b hb=>by
  cases hb':H1 b with
  |none=>exact absurd hb' hb
  |some o=>
    have lt:=I.hok.lt hb'
    have ex:∃o',s1.heap.get? b=some o':=(I.hok b o hb').there
    obtain⟨o',ho'⟩:=ex
    refine⟨o',PySem.W.hideAll_get _ ho' fun hm=>?_⟩
    have:=I.stkFree b hm
    rw[hb'] at this;cases this
 have hfs:∀b∈frs outer,∃o,h1.get? b=some o∧∀vs,o.data≠.fields vs:=fun b hb=>by
  obtain⟨_,o,ho,nf⟩:=ff.2.2.mem hb
  exact⟨o,hx.keeps _ _ ho,nf⟩
 have I1:Inv (bO P w K mg base N qual scope f cd A outer s H E) pins σ H1 { s1 with heap:=h1 }:=I.kept (t':=s1.toks) hx.keeps
 show wpAny _ _ (leaving _ (.ref e)) _ _ _
 refine wpAny_leaves_madeW hfr rfl hst (PySem.W.funFrames_hide ff hin) hx fun h' t fl' _ _ up=>?_
 exact⟨e,C,.ref t,H1,_,rfl,I1.os,I1.bare,pQ I1.base (fun b o e=>hx.keeps _ _ (hst _ _ e)) fl'.1 up hfs cov,lY I1.hok (fun b o e=>hx.keeps _ _ (hst _ _ e)) fl'.1 ci,fl',ci,cov,q⟩
end
abbrev oZ:List Value:=[.type "ValueError",.type "Exception",.type "BaseException",.type "object"]
theorem uA {K:PySem.W.Frag}{h:Heap}{mg:Str->Option Value}{x:Str}{C:Addr}{bmB:List Value}{newId:String} (X:K.In h) (m:mg x=some (.ref C)) (q:PySem.W.excIn K C bmB newId=true):OwnCls x C bmB newId mg h:=by
 refine⟨m,?_⟩
 unfold PySem.W.excIn at q
 split at q
 ·rename_i dd cd sl hobj
  split at q
  ·rename_i C' tl a0 a1 a2 a3 n a5 hmro hslot
   (simp only[Bool.not_eq_true',Bool.and_eq_true,beq_iff_eq] at q)
   obtain⟨⟨⟨⟨⟨rfl,rfl⟩,hnd⟩,ht⟩,hns⟩,hin⟩:=q
   obtain⟨c1,c2,c3,c4,c5,c6,c7,c8,c9,c10,c11⟩:=cd
   dsimp only at hmro hnd hns hin
   subst hmro hnd
   have hslv:sl=#[a0,a1,a2,a3,some (.builtin n),a5]:=by
    obtain⟨l⟩:=sl
    simp only at hslot
    rw[hslot]
   subst hslv
   exact⟨tl,c4,c1,c5,c2,c6,c7,c8,c9,c10,dd,a0,a1,a2,a3,a5,_,X _ _ hobj,.of_isNs (PySem.W.isNs_of_in X hns),PySem.W.nsMap_none_of_in X hns hin,PySem.W.tail_of_in X ht⟩
  ·cases q
 ·cases q
structure XCls(K:PySem.W.Frag)(mg:Str->Option Value)(x:Str)(C:Addr):Prop where
 at_:mg x=some (.ref C)
 exc:PySem.W.excIn K C oZ "ValueError.__new__"=true
section
variable{P:Program}{w:World}{K:PySem.W.Frag}{mg:Str->Option Value}{base:Heap}{N:List Str}{qual:Str}{scope:Scope}{f:Addr}{cd:Value}{A:Around}{outer:List Env}{s:Shared}{H:Hp}{E:XK}
theorem Fd{x:Str}{C:Addr}{np cpos pos:Pos}{e:Expr}{te:TE}(hc:XCls K mg x C)(he:PE (bO P w K mg base N qual scope f cd A outer s H E) e te)
  (hg:Gl (bO P w K mg base N qual scope f cd A outer s H E) x:=by rfl) (hd:(x==("__debug__":Str))=false:=by decide)
  (hst:starEach [e] (bO P w K mg base N qual scope f cd A outer s H E).env=[(false,eval e (bO P w K mg base N qual scope f cd A outer s H E).env)]:=by rfl) :
  PS (bO P w K mg base N qual scope f cd A outer s H E) (.Raise (some (.Call (.Name x np) [e] [] cpos)) none pos) (fun _ σ H1=>te σ H1 fun v H2=>[v].length=1∧E (.ref C) none H2):=by
 intro pins s1 σ H1 D I h
 have O:=uA (newId := "ValueError.__new__") (bmB:=oZ) (mg:=mg) (x:=x) I.ok.mod.kin hc.at_ hc.exc
 obtain⟨tl,Nn,nm,q,bs,hdct,sn,sub,ab,col,dd,k0,k1,k2,k3,k5,mN,hC,hN,hni,T⟩:=O.obj
 refine wpAny_Raise_call_subT (C:=C) (nm:=nm) (q:=q) (N:=Nn) (bs:=bs) (bm:=tl) (hdct:=hdct) (sn:=sn) (sub:=sub) (ab:=ab) (col:=col) (dd:=dd) (k0:=k0) (k1:=k1) (k2:=k2) (k3:=k3) (k5:=k5)
  PySem.F.excBase_ValueError (mN:=mN) (T.hasType PySem.F.excBase_ValueError.hasBase) (I.ok.hd rfl) (by rw[hst];rfl) hni (ld_glob I hg hc.at_ ⟨rfl,?_⟩ hd)
 have hPA:=(pa_cons he pa_nil hst) cpos pins s1 σ H1 (fun vs H2=>vs.length=1∧E (.ref C) none H2) I h
 rw[hst] at hPA ⊢
 refine Calls.evalArgs_plain (wpAny_mono hPA (fun vs s₂ h₂=>?_) fun _ _ y=>y)
 obtain⟨ws,H2,I2,rv,l1,qE⟩:=h₂
 have lv:vs.length=1:=by rw[←rv.length];exact l1
 have kp:∀b o,base.get? b=some o->s₂.heap.get? b=some o:=I2.bk
 exact⟨rfl,by rw[lv];decide,kp _ _ hC,hN.keeps kp,T.keeps kp,fun h' e hm=>Km I2 hm qE⟩
end
section
variable{X:Cx}{pins:List (Addr×Obj)}{σ:St}{H:Hp}{s:Shared}{h' B:Heap}
theorem Inv.land(I:Inv X pins σ H s)(hc:X.env.cells=[])(hex:X.ex=[])(hB:B.StaysIn s.heap)(hB':B.StaysIn h')(up:s.heap.UpToSlots h')
  (fr:∀b∈X.fs,∃o,s.heap.get? b=some o∧∀vs,o.data≠.fields vs) (ci:∀b,H b≠none->∃o,B.get? b=some o) (cov:∀b o,X.s₀.heap.get? b=some o->b∉X.fs->∃o',B.get? b=some o')
  (cp:∀p∈X.pn++pins,B.get? p.1=some p.2):Inv X pins σ H { s with heap:=h' }:=by
 have nc:∀x c,X.env.cells.lookup x=some c->False:=fun x c e=>by rw[hc] at e;cases e
 obtain⟨m,hn,hl⟩:=I.loc
 have ub:Un X.fs [] X.H₀ H X.s₀.heap s.heap:=by have:=I.base;rw[hex] at this;exact this
 refine⟨I.ok,I.os,I.bare,?_,⟨m,up.ns hn,fun i x v h1 h2 h3=>?_⟩,fun x c e=>(nc x c e).elim,I.free,fun x c e=>(nc x c e).elim,fun p hp=>?_,lY I.hok hB hB' ci,I.len⟩
 ·rw[hex];exact pQ ub hB hB' up fr cov
 ·obtain⟨u,r,q⟩:=hl i x v h1 h2 h3
  refine⟨u,r,?_⟩
  rcases q with q | ⟨_,c,e,_⟩
  ·exact .inl q
  ·exact (nc x c e).elim
 ·obtain⟨e,n,ne,nf,d⟩:=I.pin p hp
  exact⟨hB' _ _ (cp p hp),n,ne,nf,d⟩
theorem Inv.gone (I:Inv X pins σ H s) (hN:X.N.Nodup) (hi:X.N[i]?=some n) (hk:X.env.kindOf n=some .local)
  (h:∀s',Inv X pins (σ.set i none) H s'->Q () s'):wpAny M A (do bindName X.env n .none;unbindBehindTheSuite X.env n pos) Q E s:=by
 obtain⟨m,hn,hl⟩:=id I.loc
 have hcls:(X.env.scope.kind==.class || (X.env.scope.kind==.module&&X.env.locals != X.env.globals))=false:=by rw[I.ok.kind];rfl
 have cne:=I.cne
 obtain⟨oL,_,_,hoL,_⟩:=id hn
 refine wpAny_nameGoes_keeps hk hn hcls fun h' v hn' hs=>?_
 refine h _ ⟨I.ok,I.os,I.bare,⟨fun b o e n hb hx=>?_,fun b o e n hb hx=>?_,I.base.free,fun b o e hx=>?_,I.base.tups,I.base.frzs,I.base.tbls⟩,⟨_,hn',fun j y v' e1 e2 e3=>?_⟩,fun y c e=>?_,I.free,I.freeC,fun p hp=>?_,fun b ob e=>?_,by simpa using I.len⟩
 ·exact (hs.2 b (Nat.ne_of_lt (Nat.lt_of_lt_of_le (Heap.lt_size e) I.ok.above))).trans (I.base.keep b o e n hb hx)
 ·obtain⟨sl,e1⟩:=I.base.slot b o e n hb hx
  exact⟨sl,(hs.2 b (Nat.ne_of_lt (Nat.lt_of_lt_of_le (Heap.lt_size e) I.ok.above))).trans e1⟩
 ·obtain⟨o',e1⟩:=I.base.there b o e hx
  exact⟨o',(hs.2 b (Nat.ne_of_lt (Nat.lt_of_lt_of_le (Heap.lt_size e) I.ok.above))).trans e1⟩
 ·have hj:j≠i:=fun z=>by
   subst z
   have hlt:j<σ.length:=by rw[I.len];exact (List.getElem?_eq_some_iff.mp hi).1
   rw[List.getElem?_set_self hlt] at e2
   cases e2
  rw[List.getElem?_set_ne (Ne.symm hj)] at e2
  obtain⟨u',r',q⟩:=hl j y v' e1 e2 e3
  refine⟨u',r',?_⟩
  rcases q with ⟨k,e⟩ | ⟨k,c,e,z⟩
  ·refine .inl ⟨k,?_⟩
   have:y≠n:=fun e=>hj (nodup_ix hN e1 (e ▸ hi))
   simp[this,e]
  ·exact .inr ⟨k,c,e,z.sameBut hs (cne y c e)⟩
 ·obtain⟨w',z⟩:=I.cell y c e
  exact⟨w',z.sameBut hs (cne y c e)⟩
 ·obtain⟨e,n,ne,nf,d⟩:=I.pin p hp
  exact⟨(hs.2 p.1 ne).trans e,n,ne,nf,d⟩
 ·refine (I.hok b ob e).stay (fun c w' hc q=>(hs.2 c ?_).trans q) (fun _ q=>q) fun _ _ q=>q
  rintro rfl
  rcases hc with hc | hc
  ·rw[←hc,I.free] at e;cases e
  ·rw[I.free] at hc;cases hc
end
def NZ (X:Cx) (pins:List (Addr×Obj)) (Eh:XK):Value->Shared->Prop:=fun e s'=>
 ∃(σ':St) (H':Hp) (x:Addr) (C a0:Value) (B:Heap),e=.ref x∧Inv X pins σ' H' s'∧Heap.FlyingW B X.stack x C a0 s'.heap∧(∀b,H' b≠none->∃o,B.get? b=some o) ∧
   (∀b o,X.s₀.heap.get? b=some o->b∉X.fs->∃o',B.get? b=some o')∧(∀p∈X.pn++pins,B.get? p.1=some p.2)∧Eh C none H'
abbrev Cx.tryC(X:Cx)(pins:List (Addr×Obj))(Eh:XK):Cx:={ X with pn:=X.pn++pins,xe:=NZ X pins Eh }
abbrev Cx.sui(X:Cx)(x:Addr)(oe:Obj):Cx:={ X with A:=X.A.mark (some (.ref x)),calm:=false,pn:=X.pn++[(x,oe)],xe:=fun _ _=>False }
section
variable{X:Cx}{pins:List (Addr×Obj)}{σ:St}{H:Hp}{s:Shared}{Eh:XK}{P:Program}{w:World}
theorem Inv.toTry(I:Inv X pins σ H s):Inv (X.tryC pins Eh) [] σ H s:=
 ⟨⟨I.ok.mod,I.ok.kind,I.ok.glob,I.ok.blt,I.ok.above,I.ok.inj,I.ok.has,I.ok.cab,I.ok.hd,I.ok.frames,I.ok.stk,I.ok.exf,I.ok.bs,I.ok.bsz,I.ok.noex,I.ok.exfs,I.ok.funs,I.ok.frf⟩,I.os,I.bare,I.base,I.loc,I.cell,I.free,I.freeC,fun p hp=>I.pin p (by simpa using hp),I.hok,I.len⟩
theorem Inv.ofTry(I:Inv (X.tryC pins Eh) pins2 σ H s):Inv X pins σ H s:=
 ⟨⟨I.ok.mod,I.ok.kind,I.ok.glob,I.ok.blt,I.ok.above,I.ok.inj,I.ok.has,I.ok.cab,I.ok.hd,I.ok.frames,I.ok.stk,I.ok.exf,I.ok.bs,I.ok.bsz,I.ok.noex,I.ok.exfs,I.ok.funs,I.ok.frf⟩,I.os,I.bare,I.base,I.loc,I.cell,I.free,I.freeC,fun p hp=>I.pin p (List.mem_append_left _ hp),I.hok,I.len⟩
theorem Inv.toSui (I:Inv X pins σ H s) (h:s.heap.get? x=some oe∧H x=none∧x≠X.env.locals∧x∉X.fs∧∀ v,oe.data≠.cell v):Inv (X.sui x oe) pins σ H s:=
 ⟨⟨I.ok.mod,I.ok.kind,I.ok.glob,I.ok.blt,I.ok.above,I.ok.inj,I.ok.has,I.ok.cab,fun z=>(by cases z),I.ok.frames,I.ok.stk,I.ok.exf,I.ok.bs,I.ok.bsz,I.ok.noex,I.ok.exfs,I.ok.funs,I.ok.frf⟩,I.os,I.bare,I.base,I.loc,I.cell,I.free,I.freeC,fun p hp=>by
  rcases List.mem_append.mp hp with hp | hp
  ·rcases List.mem_append.mp hp with hp | hp
   ·exact I.pin p (List.mem_append_left _ hp)
   ·cases List.mem_singleton.mp hp;exact h
  ·exact I.pin p (List.mem_append_right _ hp),I.hok,I.len⟩
theorem Inv.ofSui(ok:X.Ok)(I:Inv (X.sui x oe) pins σ H s):Inv X pins σ H s:=
 ⟨ok,I.os,I.bare,I.base,I.loc,I.cell,I.free,I.freeC,fun p hp=>I.pin p (by
  rcases List.mem_append.mp hp with hp | hp
  ·exact List.mem_append_left _ (List.mem_append_left _ hp)
  ·exact List.mem_append_right _ hp),I.hok,I.len⟩
theorem Lj (hex:X.ex=[]) (hP:X.prog=P) (hw:X.w=w):Passes (bM P w) (X.tryC pins Eh) Eh:=by
 subst hP hw
 intro pins2 σ H1 s1 e s' I hf
 obtain⟨x,C,a0,H',B,rfl,os,bare,un,hok,fl,ci,cii,q⟩:=hf
 have J:Inv (X.tryC pins Eh) pins2 σ H' s':=I.call' (ch:=[]) os un hok bare (fun b z=>absurd z (by simp))
 have J':=J.ofTry
 have cp:∀p∈X.pn++pins,B.get? p.1=some p.2:=fun p hp=>by
  obtain⟨e1,n1,ne1,nf1,d1⟩:=I.ofTry.pin p hp
  obtain⟨e2,_⟩:=J'.pin p hp
  obtain⟨o',e3⟩:=cii p.1 p.2 e1 (fun hm=>by
   rcases List.mem_cons.mp (I.ofTry.stkSub _ hm) with z | z
   ·exact ne1 z
   ·exact nf1 z)
  have:=fl.1 _ _ e3
  rw[e2] at this;cases this
  exact e3
 have cov:∀b o,X.s₀.heap.get? b=some o->b∉X.fs->∃o',B.get? b=some o':=fun b o e hb=>by
  obtain⟨o1,h1⟩:=I.base.there b o e (by show b∉X.ex;rw[hex];simp)
  refine cii b o1 h1 fun hm=>?_
  rcases List.mem_cons.mp (I.ofTry.stkSub _ hm) with z | z
  ·exact absurd (Heap.lt_size e) (by rw[z];exact Nat.not_lt.mpr I.ok.above)
  ·exact hb z
 exact⟨σ,H',x,C,a0,B,rfl,J',fl,ci,cov,cp,q⟩
end
section
variable{M:Model}{A:Around}{E:Value->Shared->Prop}
variable{nm q:Str}{C N:Addr}{bs bm:List Value}{hdct:Bool}{sn:List Str}{sub:List Value}{ab:Bool}{col:Option Bool}{dd:Option Addr}{k0 k1 k2 k3 k5:Option Value}{newId:String}
variable{nm' q':Str}{C' N':Addr}{bs' bm':List Value}{hdct':Bool}{sn':List Str}{sub':List Value}{ab':Bool}{col':Option Bool}{dd':Option Addr}{j0 j1 j2 j3 j5:Option Value}{newId':String}
theorem uo{h:Heap}{g:Array GenState}{d:Drawn}{t:Nat}{os:OsState}{e:Addr}{oe:Obj}{Q:Bool->Shared->Prop}
  (hC:h.get? C=some (excClassObj nm q C N bs bm hdct sn sub ab col dd k0 k1 k2 k3 k5 newId)) (hC':h.get? C'=some (excClassObj nm' q' C' N' bs' bm' hdct' sn' sub' ab' col' dd' j0 j1 j2 j3 j5 newId')) (he:h.get? e=some oe) (hcls:oe.cls=.ref C)
  (hbase:bm'.contains (.type "BaseException")=true) (hsub:(Value.ref C::bm).contains (.ref C')=true)
  (hq:Q true ⟨h,g,d,t,os⟩):wpAny M A (excMatches (.ref e) (.ref C')) Q E ⟨h,g,d,t,os⟩:=by
 have hcB:(Value.ref C'::bm').contains (.type "BaseException")=true:=by rw[List.contains_cons,hbase,Bool.or_true]
 have f:=tc_notTuple
 unfold excMatches
 repeat (first | (with_reducible refine wpAny_loadPart_at he ?_;rw[hcls]) | with_reducible refine wpAny_loadPart_at hC' ?_ | (with_reducible refine wpAny_isSubtype_exc hC' ?_;rw[hcB]) | (with_reducible refine wpAny_isSubtype_exc hC ?_;rw[hsub]) | wp_step)
 all_goals exact hq
end
structure Catches(K:PySem.W.Frag)(C F:Addr):Prop where
 exc:PySem.W.excIn K C oZ "ValueError.__new__"=true
 excF:PySem.W.excIn K F oZ "ValueError.__new__"=true
 sub:PySem.W.mroIn K C (.ref F)=some true
theorem zO {K:PySem.W.Frag}{M:Model}{A:Around}{E:Value->Shared->Prop}{s:Shared}{C F e:Addr}{oe:Obj}{Q:Bool->Shared->Prop} (X:K.In s.heap) (c:Catches K C F) (he:s.heap.get? e=some oe) (hcls:oe.cls=.ref C) (hq:Q true s) :
  wpAny M A (excMatches (.ref e) (.ref F)) Q E s:=by
 obtain⟨bm,N,nm,q,bs,hdct,sn,sub,ab,col,dd,k0,k1,k2,k3,k5,mN,hC,hN,hni,T⟩:=(uA (mg:=fun _=>some (.ref C)) (x := "x") X rfl c.exc).obj
 obtain⟨bm',N',nm',q',bs',hdct',sn',sub',ab',col',dd',j0,j1,j2,j3,j5,mN',hC',hN',hni',T'⟩:=(uA (mg:=fun _=>some (.ref F)) (x := "x") X rfl c.excF).obj
 have hsub:(Value.ref C::bm).contains (.ref F)=true:=by
  have h1:=c.sub
  unfold PySem.W.mroIn at h1
  obtain⟨cd,a,b⟩:=Option.bind_eq_some_iff.mp h1
  unfold PySem.W.clsIn at a
  split at a
  ·rename_i c' d' cd' sl' ho
   have:=X _ _ ho
   rw[hC] at this
   cases this
   cases a
   split at b
   ·cases b
   ·exact Option.some.inj b
  ·cases a
 obtain⟨hp,g,d,tk,os⟩:=s
 exact uo hC hC' he hcls (T'.hasType PySem.F.excBase_ValueError.hasBase) hsub hq
def Ny(X:Cx)(i:Nat)(F:Addr)(Eh:XK)(tb:TS)(th:Addr->Obj->TS):TS:=fun D σ H=>
 tb D σ H∧∀(x:Addr) (oe:Obj) (C:Value) (H1:Hp),oe.cls=C->(∃vs,oe.data=.fields vs)->Eh C none H1->(∃c,C=.ref c∧Catches X.K c F) ∧
  th x oe { D with nx:=fun σ' H'=>D.nx (σ'.set i none) H',bk:=fun σ' H'=>D.bk (σ'.set i none) H',ct:=fun σ' H'=>D.ct (σ'.set i none) H' } ((List.replicate X.N.length none).set i (some (.ref x))) H1
theorem J6 (hcalm:X.calm=true) (hcells:X.env.cells=[]) (hex:X.ex=[])
  (hst:X.stack=X.env::X.outer) (hfr:X.env.frame=some X.env.locals) (hN:X.N.Nodup) (hi:X.N[i]?=some n) (hk:X.env.kindOf n=some .local) (hm:X.mg x=some (.ref F))
  (hb:∀pins,PSs (X.tryC pins Eh) body tb) (hs:∀y oe,PSs (X.sui y oe) (b₀::suite) (th y oe)) (hg:Gl X x:=by rfl) (hd:(x==("__debug__":Str))=false:=by decide) :
  PS X (.Try body [.ExceptHandler (some (.Name x np)) (some n) (b₀::suite) p1] [] [] pos) (Ny X i F Eh tb th):=by
 intro pins s σ H D I h
 obtain⟨h1,h2⟩:=h
 have FQ:∀{f:Flow}{s':Shared},SP (X.tryC pins Eh) [] D f s'->SP X pins D f s':=fun {f s'} z=>by
  cases f with
  |next=>obtain⟨σ',H',J,q⟩:=z;exact⟨σ',H',J.ofTry,q⟩
  |brk=>obtain⟨σ',H',J,q⟩:=z;exact⟨σ',H',J.ofTry,q⟩
  |cont=>obtain⟨σ',H',J,q⟩:=z;exact⟨σ',H',J.ofTry,q⟩
  |ret u=>obtain⟨v,σ',H',J,r,q⟩:=z;exact⟨v,σ',H',J.ofTry,r,q⟩
 refine wpAny_Try_except (wpAny_mono ((hb pins) [] s σ H D I.toTry h1) (fun f s₁ hf=>?_) fun e s₁ he=>?_)
 ·have hf':=FQ hf
  cases f with
  |next=>exact wpAny_execs_nil hf'
  |brk=>exact hf'
  |cont=>exact hf'
  |ret u=>exact hf'
 obtain⟨σ',H',y,C,a0,B,rfl,J,fl,ci,cov,cp,q⟩:=he
 have hfrs:X.A.frames=some (X.env::X.outer):=by rw[I.ok.frames,hst]
 rw[hst] at fl
 have fr:∀b∈X.fs,∃o,s₁.heap.get? b=some o∧∀vs,o.data≠.fields vs:=fun b hb=>(fl.2.2.1.2.2.mem hb).2
 refine wpAny_looks_onW hfrs hfr fl fun h₄ held up₄=>?_
 refine wpAny_landsW held fun h₅ fl₅ up₅=>?_
 have J₅:Inv X pins σ' H' { s₁ with heap:=h₅ }:=J.land hcells hex fl.1 fl₅.1 (up₄.trans up₅) fr ci cov cp
 obtain⟨ob,wb,hob,hobc,hobd,_⟩:=fl₅.first
 refine wpAny_handleBy_cons (codeAny_handlers_test ?_) (by intro z;cases z)
 have K₅:∀{E:Value->Shared->Prop}{Q:Value->Shared->Prop},Q (.ref F) { s₁ with heap:=h₅ }->wpAny (model X.prog X.w) (X.A.mark (some (.ref y))) (eval (.Name x np) X.env) Q E { s₁ with heap:=h₅ }:=fun hQ=>
  Calls.Name_function_global I.ok.kind hg (by
   have g5:h₅.Ns X.env.globals X.mg:=by rw[I.ok.glob];exact I.ok.mod.glob.keeps J₅.bk
   exact Calls.loadGlobal_global g5 hm hQ) hd
 refine K₅ ?_
 obtain⟨⟨c,hCc,cat⟩,_⟩:=h2 y ob C H' hobc ⟨_,hobd⟩ q
 subst hCc
 refine zO J₅.kIn cat hob hobc ?_
 refine codeAny_handlers_suite_as ?_
 refine lands_againW fl₅ fun h₆ fl₆ up₆=>?_
 have fr₅:∀b∈X.fs,∃o,h₅.get? b=some o∧∀vs,o.data≠.fields vs:=fun b hb=>(fl₅.2.2.1.2.2.mem hb).2
 have fr₆:∀b∈X.fs,∃o,h₆.get? b=some o∧∀vs,o.data≠.fields vs:=fun b hb=>(fl₆.2.2.1.2.2.mem hb).2
 have J₆:Inv X pins σ' H' { s₁ with heap:=h₆ }:=J₅.land (s:={ s₁ with heap:=h₅ }) hcells hex fl₅.1 fl₆.1 up₆ fr₅ ci cov cp
 have J₇:Inv X pins (List.replicate X.N.length none) H' { s₁ with heap:=h₆ }:=J₆.weak (by rw[J₆.len];simp) fun i v z=>by
  rw[List.getElem?_replicate] at z
  split at z<;>cases z
 obtain⟨oe,ws,hoe,hoec,hoed,hoe0⟩:=fl₆.first
 obtain⟨m,⟨oL,es,ep,hoL,hdL,_⟩,_⟩:=id J₇.loc
 have ynL:y≠X.env.locals:=fun z=>by rw[z] at hoe;rw[hoL] at hoe;cases hoe;rw[hdL] at hoed;cases hoed
 have ynf:y∉X.fs:=fun z=>by
  obtain⟨o,ho,nf⟩:=fr₆ y z
  rw[hoe] at ho;cases ho
  exact nf _ hoed
 have yH:H' y=none:=by
  cases z:H' y with
  |none=>rfl
  |some o=>
    obtain⟨o',e'⟩:=ci y (by rw[z];simp)
    rw[fl.2.1] at e';cases e'
 refine store_ok2 (v:=.ref y) J₇ hN hi (.inl hk) rfl (fun s' I' hsb=>?_) (.inr hk)
 obtain⟨a,hsb,ha⟩:=hsb
 have ha':a=X.env.locals:=by
  rcases ha with ha | ha
  ·exact ha
  ·rw[hcells] at ha;cases ha
 subst ha'
 have hoe':s'.heap.get? y=some oe:=(hsb.2 y ynL).trans hoe
 have IS:=I'.toSui (x:=y) (oe:=oe) ⟨hoe',yH,ynL,ynf,fun v z=>by rw[hoed] at z;cases z⟩
 refine wpAny_mono ((hs y oe) pins s' _ H' _ IS (h2 y oe (.ref c) H' hoec ⟨_,hoed⟩ q).2) (fun f s₃ hf=>?_) fun _ _ z=>z.elim
 cases f with
 |next=>
   obtain⟨σ2,H2,J2,q2⟩:=hf
   exact (J2.ofSui I.ok).gone hN hi hk fun s4 J4=>⟨_,H2,J4,q2⟩
 |brk=>
   obtain⟨σ2,H2,J2,q2⟩:=hf
   exact (J2.ofSui I.ok).gone hN hi hk fun s4 J4=>⟨_,H2,J4,q2⟩
 |cont=>
   obtain⟨σ2,H2,J2,q2⟩:=hf
   exact (J2.ofSui I.ok).gone hN hi hk fun s4 J4=>⟨_,H2,J4,q2⟩
 |ret u=>
   obtain⟨v,σ2,H2,J2,r2,q2⟩:=hf
   exact (J2.ofSui I.ok).gone hN hi hk fun s4 J4=>⟨v,_,H2,J4,r2,q2⟩
structure XAt(K:PySem.W.Frag)(D:Addr):Prop where
 ga:PySem.W.findIn K (.ref D) "__getattribute__"=some (some (.builtin "BaseException.__getattribute__"))
 gn:PySem.W.findIn K (.ref D) "__getattr__"=some none
 gc:PySem.W.findIn K (.ref D) "__class__"=some (some (.builtin "object.__class__"))
 mo:PySem.W.mroIn K D (.type "object")=some true
 mb:PySem.W.mroIn K D (.type "BaseException")=some true
section
variable{prog:Program}{w:World}{A:Around}{E:Value->Shared->Prop}{h:Heap}{g:Array GenState}{d:Drawn}{t:Nat}{os:OsState}{x D:Addr}{oe:Obj}{K:PySem.W.Frag}
theorem Bw(hx:h.get? x=some oe)(hc:oe.cls=.ref D):PySem.W.Looks M h (typeOf (.ref x)) (.ref D):=hc ▸ (PySem.W.Looks.ld hx).andThen .now
open PySem.W Builtin.Getset_descriptor Builtin.ObjectAttr Builtin in
theorem zE(X:K.In h)(hx:h.get? x=some oe)(hc:oe.cls=.ref D)(hm:mroIn K D (.type "object")=some true)
  (hR:R (.ok (.ret (.ref D))) ⟨h,g,d,t,os⟩):codeAny (model prog w) A (.call (.builtin "getset_descriptor.__get__") ⟨[.builtin "object.__class__",.ref x,tp],[]⟩) R ⟨h,g,d,t,os⟩:=by
 have Lty:=Bw (M:=model prog w) hx hc
 have Lmr:=looks_mroIn (M:=model prog w) X hm
 refine codeAny_call_builtin KF.slot_gs.plain KF.entry_gs (KF.slot_gs.check _ _ _ _ _ _ _ _ KF.type_class (KF.args_gs _ _ _) ?_)
 (unfold Builtin.«getset_descriptor.__get__» descrGet;rw[dga_obj];refine wpAny_bind (wpAny_pure ?_))
 (unfold descrGetter descrCheckInstance descrNameAndClass isInstance;simp only[KF.owner_class];repeat lk)
 refine⟨Code.quiet_builtin _ (by decide +kernel),codeAny_builtin KF.entry_class ?_⟩
 (unfold Builtin.«object.__class__» shownTypeOf;repeat lk)
 all_goals first | exact hR | assumption
theorem xZ(X:K.In h)(T:XAt K D)(hx:h.get? x=some oe)(hc:oe.cls=.ref D)(hq:Q (.done (.ret (.ref D))) ⟨h,g,d,t,os⟩) :
  wpAny (model prog w) A (Builtin.«object.__getattribute__» ⟨[.ref x,.str "__class__" tk],[]⟩) Q E ⟨h,g,d,t,os⟩:=by
 have tyc:(⟨h,g,d,t,os⟩:Shared).TypeIs (.builtin "object.__class__") "getset_descriptor":=F.typeOf_object_class
 have u5:=F.typeOf_object_class
 have u6:=F.slot_gs_get.lookup
 have u7:=F.slot_gs_set.lookup
 have Lc:=PySem.W.looks_findIn (M:=model prog w) X T.gc
 repeat (any_goals (first | assumption | (with_reducible refine wpAny_loadPart_at hx ?_;rw[hc]) | with_reducible refine Lc.at ?_ | wp_step))
 refine zE X hx hc T.mo ?_
 repeat (any_goals (first | wp_step | assumption))
theorem DN(X:K.In h)(T:XAt K D)(hx:h.get? x=some oe)(hc:oe.cls=.ref D)(hq:Q () ⟨h,g,d,t,os⟩) :
  wpAny M A (checkBuiltinCall "BaseException.__getattribute__" ⟨[.ref x,nameV],[]⟩) Q E ⟨h,g,d,t,os⟩:=by
 have bk:builtinKind "BaseException.__getattribute__"=some .slot:=by decide +kernel
 have spl:splitId "BaseException.__getattribute__"=some ("BaseException", "__getattribute__"):=by decide +kernel
 have ha:=F.args_bexc_ga (.ref x) nameV
 have Lb:=PySem.W.looks_mroIn (M:=M) X T.mb
 simp only[checkBuiltinCall,bk,spl]
 refine wpAny_bind ?_
 ·unfold isInstance
  repeat (first | (with_reducible refine wpAny_loadPart_at hx ?_;rw[hc]) | with_reducible refine Lb.at ?_ | wp_step)
  exact hq
theorem zB(X:K.In h)(T:XAt K D)(hx:h.get? x=some oe)(hc:oe.cls=.ref D)(hq:R (.ok (.ret (.ref D))) ⟨h,g,d,t,os⟩) :
  codeAny (model prog w) A (.call (.builtin "BaseException.__getattribute__") ⟨[.ref x,.str "__class__" tk],[]⟩) R ⟨h,g,d,t,os⟩:=
 codeAny_call_builtin F.attrBase_ValueError.ga.plain F.entry_bexc_ga (DN X T hx hc (xZ X T hx hc hq))
theorem DR{fill expr:Bool}{Q:Value->Shared->Prop}(X:K.In h)(T:XAt K D)(hx:h.get? x=some oe)(hc:oe.cls=.ref D)(hq:Q (.ref D) ⟨h,g,d,t,os⟩) :
  wpAny (model prog w) A (getAttrBy (.ref x) (.str "__class__" tk) fill expr) Q E ⟨h,g,d,t,os⟩:=by
 have u3:=F.attrBase_ValueError.ga.bind (.ref x)
 have ex0:(expr&&onTheHeap (Value.builtin "BaseException.__getattribute__"))=false:=by cases expr<;>rfl
 have ex2:(Value.builtin "BaseException.__getattribute__"==Value.builtin "object.__getattribute__")=false:=by decide +kernel
 have ex1:(onTheHeap (Value.ref D)&&Value.builtin "BaseException.__getattribute__"==Value.builtin "object.__getattribute__")=false:=by rw[ex2];rfl
 have L1:=PySem.W.looks_findIn (M:=model prog w) X T.ga
 have L2:=PySem.W.looks_findIn (M:=model prog w) X T.gn
 repeat (any_goals (first | assumption | (with_reducible refine wpAny_loadPart_at hx ?_;rw[hc]) | with_reducible refine L1.at ?_ | with_reducible refine L2.at ?_ | wp_step))
 refine zB X T hx hc ?_
 repeat (any_goals (first | wp_step | assumption))
theorem rQ{Q:Option Value->Shared->Prop}(X:K.In h)(T:XAt K D)(hx:h.get? x=some oe)(hc:oe.cls=.ref D)(hq:Q (some (.ref D)) ⟨h,g,d,t+1,os⟩) :
  wpAny (model prog w) A (getAttr? (.ref x) "__class__") Q E ⟨h,g,d,t,os⟩:=by
 unfold getAttr? getAttrBy?
 refine wpAny_bind (wpAny_mkText (wpAny_bind (wpAny_attempt (DR X T hx hc ?_))))
 repeat (any_goals (first | wp_step | assumption))
end
theorem Ek {K:PySem.W.Frag}{x D:Addr}{oe:Obj} (T:XAt K D) (hc:oe.cls=.ref D) :
  PySem.W.KitX K (.ref x) (.ref D) (fun h=>h.get? x=some oe) where
 ty:=fun _ _ _ I=>Bw I hc
 it:=fun _ _ X _=>by
  have h1:=T.mo
  unfold PySem.W.mroIn at h1
  obtain⟨cd,a,b⟩:=Option.bind_eq_some_iff.mp h1
  unfold PySem.W.clsIn at a
  split at a
  ·rename_i c' d' cd' sl' ho
   intro A' Q' E' s' k q
   unfold isType loadHead
   exact wpAny_bind (wpAny_loadPart (k _ _ (X _ _ ho)) (wpAny_pure q))
  ·cases a
 ne:=fun h tp dd its n sl X htp=>by
  have h1:=T.mo
  unfold PySem.W.mroIn at h1
  obtain⟨cd,a,b⟩:=Option.bind_eq_some_iff.mp h1
  refine Bool.eq_false_iff.mpr fun q=>?_
  cases Value.ref.inj (beq_iff_eq.mp q)
  unfold PySem.W.clsIn at a
  split at a
  ·rename_i c' d' cd' sl' ho
   have z:=(X _ _ ho).symm.trans htp
   cases z
  ·cases a
 ca:=fun {_ _ _ _ _ s} X I k=>by obtain⟨h,g,d,t,os⟩:=s;exact rQ X T I hc k
theorem J1(h:X.mg x=some (.ref C))(hg:Gl X x:=by rfl)(hd:(x==("__debug__":Str))=false:=by decide):PE X (.Name x pos) (tC (.ref C)):=pe_glob hg h rfl hd
def pick(js:List Nat)(σ:St):St:=js.map fun j=>(σ[j]?).getD none
theorem Dl(u:Un fs ex H H' h0 h)(hs:Heap.SameBut C h h')(hC:h0.objs.size≤C):Un fs ex H H' h0 h' where
 keep b o e n hb hx:=(hs.2 b (Nat.ne_of_lt (Nat.lt_of_lt_of_le (Heap.lt_size e) hC))).trans (u.keep b o e n hb hx)
 slot b o e n hb hx:=by
  obtain⟨sl,e1⟩:=u.slot b o e n hb hx
  exact⟨sl,(hs.2 b (Nat.ne_of_lt (Nat.lt_of_lt_of_le (Heap.lt_size e) hC))).trans e1⟩
 free:=u.free
 there b o e hx:=by
  obtain⟨o',e1⟩:=u.there b o e hx
  exact⟨o',(hs.2 b (Nat.ne_of_lt (Nat.lt_of_lt_of_le (Heap.lt_size e) hC))).trans e1⟩
 tups:=u.tups
 frzs:=u.frzs
 tbls:=u.tbls
theorem yL (ok:HOk P w H h) (hs:Heap.SameBut C h h') (hC:H C=none):HOk P w H h':=fun b ob e=>
 (ok b ob e).stay (fun c w' hc q=>(hs.2 c (by
   rintro rfl
   rcases hc with hc | hc
   ·rw[←hc,hC] at e;cases e
   ·rw[hC] at hc;cases hc)).trans q) (fun _ q=>q) fun _ _ q=>q
structure DefC(P:Program)(w:World)(K:PySem.W.Frag)(mg:Str->Option Value)(base:Heap)(k:Nat)(x:Str)(ps:List Str)(sp:Sp):Prop where
 ex:∃f fd,FnOk P w K mg base (bM P w) k f fd ps sp∧Binds K fd ps []∧PySem.W.keepIn K (.ref f)=true∧mg x=some (.ref f)
section
variable{P:Program}{w:World}{K:PySem.W.Frag}{mg:Str->Option Value}{base:Heap}{k:Nat}{x:Str}{N ps:List Str}{sp:Sp}{st:Stmt}
theorem Ob (F:Fun K x x st f fd) (S:FnScope N ps (defScope st)) (len:∀ vs H Q E,sp vs H Q E->vs.length=ps.length)
  (hbody:∀(cdv:Value) (A:Around) (outer:List Env) (s:Shared) (H:Hp) (vs:List V) (Q:VK) (E:XK),Room k (A.deeper (envOfC x (defScope st) s.heap.objs.size f cdv))->sp vs H Q E->
    ∃t,PSs (bO P w K mg base N x (defScope st) f cdv A outer s H E) (defBody st) t∧t { nx:=fun _ H'=>Q .non H',rt:=Q } (start N vs) H):FnOk P w K mg base (bM P w) (k+1) f fd ps sp:=by
 obtain⟨oc,od,kV,doc,pm,an,cdv,ct,osl,rfl,l,c⟩:=F.ex
 exact fn_of l c S len (hbody cdv)
theorem DefAt.okE (D:DefAt K mg x st) (S:FnScope N ps (defScope st)) (hb:∀ (kV doc pm:Value) (an:Option Addr) (cdv ct:Value) (us:List Value),us.length=ps.length->bindArgs (PySem.W.fnOf x x (defArgs st) (defBody st) (defScope st) .none kV doc pm an cdv ct) ⟨us,[]⟩=pure (ps.zip us))
  (len:∀vs H Q E,sp vs H Q E->vs.length=ps.length)
  (hbody:∀(f:Addr) (cdv:Value) (A:Around) (outer:List Env) (s:Shared) (H:Hp) (vs:List V) (Q:VK) (E:XK),Room k (A.deeper (envOfC x (defScope st) s.heap.objs.size f cdv))->sp vs H Q E->
    ∃t,PSs (bO P w K mg base N x (defScope st) f cdv A outer s H E) (defBody st) t∧t { nx:=fun _ H'=>Q .non H',rt:=Q } (start N vs) H):DefC P w K mg base (k+1) x ps sp:=by
 obtain⟨f,fd,F,m⟩:=D.ex
 exact⟨f,fd,Ob F S len (hbody f),F.binds hb,F.kp,m⟩
end
theorem tu:Passes (bM P w) X E0:=fun _ _ _ _ _ _ _ h=>by
 obtain⟨_,_,_,_,_,_,_,_,_,_,_,_,_,q⟩:=h
 exact q.elim
section
variable{X:Cx}{j k:Nat}{ps:List Str}{sp:Sp}{x:Str}{p pos:Pos}{e:Expr}{es:List Expr}{t:TA}{E:XK}
theorem Ex(D:DefC X.prog X.w X.K X.mg X.base j x ps sp)(hr:Room k X.A)(hx:Passes (bM X.prog X.w) X E)(ha:PA X (e::es) t)(hjk:j≤k:=by decide)(hg:Gl X x:=by rfl)(hdb:(x==("__debug__":Str))=false:=by decide)
  (he:starEach (e::es) X.env=(false,eval e X.env)::starEach es X.env:=by rfl) (hpl:(backTo pos (starEach es X.env)).any (·.1)=false:=by rfl) :
  PE X (.Call (.Name x p) (e::es) [] pos) (tCall sp [] E t):=by
 obtain⟨f,fd,F,b,kp,m⟩:=D.ex
 exact pe_call F (hr.mono hjk) hg m kp b .nil hx ha hdb he hpl
end
end L2
namespace HT
open PySem PySem.Spec PyProof.Rows PySem.W
section
variable{prog:Program}{w:World}{A:Around}{E:Value->Shared->Prop}{s:Shared}
theorem Dz {vs ws:List Value}{Q:Value->Shared->Prop} (ht:IsTup s.heap t vs.toArray) (hb:IsTup s.heap b ws.toArray) (hv:vs=[])
  (h1:Q (.ref b) s):wpAny (model prog w) A (binaryOp .Add (.ref t) (.ref b)) Q E s:=by
 obtain⟨⟨cls,dd,data,sl⟩,ho,hc,n,hd⟩:=id ht
 obtain⟨⟨cls2,dd2,data2,sl2⟩,ho2,hc2,n2,hd2⟩:=id hb
 simp only at hc hd hc2 hd2
 subst hc hd hc2 hd2
 exact concat_meets ⟨_,ho,rfl⟩ ⟨_,ho2,rfl⟩ noFill_tuple_add seq_tuple_add PySem.F.slot_tuple_add PySem.F.entry_tuple_add (PySem.F.args_tuple_add_2 _ _)
   (tuple_addW0 t b vs.toArray ws.toArray n n2 dd dd2 sl sl2 (by simp[hv])) ⟨ho,ho2,h1⟩
theorem pR{items:Array Value}{lo hi:Option Int}{Q:Value->Shared->Prop}(ht:IsTup s.heap t items)(hs:s.heap.IsSliceOf sl vl vu .none)(pl:IsPart vl lo)(pu:IsPart vu hi)
  (hw:sIx items.size 0 lo=0∧sIx items.size items.size hi=items.size) (h:Q (.ref t) s):wpAny (model prog w) A (getItem (.ref t) (.ref sl)) Q E s:=by
 obtain⟨os,hos,hcs,hds⟩:=id hs
 obtain⟨ot,hot,hct,nt,hdt⟩:=id ht
 have hTs:s.TypeIs (.ref sl) "slice":=⟨os,hos,hcs⟩
 have hTt:s.TypeIs (.ref t) "tuple":=⟨ot,hot,hct⟩
 unfold getItem
 try with_reducible refine wpAny_holding ?_
 first | refine wpAny_bind (wpAny_pure ?_) | skip
 refine wpAny_bind (wpAny_sequenceKey ht.typeIs (by decide) ?_)
 refine wpAny_bind (wpAny_callSpecial?_slot (name:=Str.ofString "__getitem__") ht.typeIs PyProof.Rows.slot_tuple_getitem
  (wpAny_call_entry PyProof.Rows.slot_tuple_getitem ht.typeIs entry_tuple_getitem ?_ (args_tuple_getitem _ _)))
 show wpAny _ _ (Builtin.Tuple.tupleItemsOf (.ref t)>>=_) _ _ s
 refine wpAny_bind (tupleItemsOf_ ht ?_)
 refine wpAny_bind (wpAny_typeOf hTs ?_)
 rw[if_pos (by decide)]
 refine wpAny_bind (sliceApplied_gen hs pl pu ?_)
 have hno:((((sIx items.size 0 lo:Nat):Int)==0&&(1:Int)==1&&(sIx items.size items.size hi-sIx items.size 0 lo)==items.size)=true):=by
  rw[hw.1,hw.2];simp
 show wpAny _ _ (if (((sIx items.size 0 lo:Nat):Int)==0&&(1:Int)==1&&(sIx items.size items.size hi-sIx items.size 0 lo)==items.size)=true then _ else _) _ _ s
 rw[if_pos hno]
 unfold Builtin.Tuple.tupleIsExact
 refine wpAny_bind ?_
 refine wpAny_bind (wpAny_typeOf hTt (wpAny_pure ?_))
 rw[if_pos (by decide)]
 exact wpAny_bind (wpAny_rule (wpAny_pure ⟨_,rfl,wpAny_pure h⟩))
end
end HT
namespace L2
open PySem PySem.Spec PyProof.Rows
section
variable{X:Cx}
theorem Ec{xs:List V}{lo hi:Option Int}(h:HT.sIx xs.length 0 lo=0∧HT.sIx xs.length xs.length hi=xs.length):cutV xs lo hi=xs:=by
 unfold cutV
 rw[h.1,h.2]
 simp
def Np:V->Option Int->Option Int->Hp->VK->Prop:=fun x lo hi H Q=>∃a xs,x=.ref a∧H a=some (.tup xs)∧∀p H',Same H H'->H' p=some (.tup (cutV xs lo hi))->Q (.ref p) H'
theorem HF:SlR X Np:=by
 intro pins s σ H x v vl vu lo hi sl Q I rx hs pl pu h
 obtain⟨a,xs,rfl,hx,q⟩:=h
 by_cases hw:HT.sIx xs.length 0 lo=0∧HT.sIx xs.length xs.length hi=xs.length
 ·cases rx
  obtain⟨its,r,ht,hz⟩:=I.tuple (SqT.of hx)
  have hlen:its.toArray.size=xs.length:=by rw[List.size_toArray];exact r.length.symm
  refine⟨"tuple",_,PyProof.Rows.slot_tuple_getitem.lookup,ht.typeIs,?_⟩
  refine HT.pR ht hs pl pu (by rw[hlen];exact hw) ⟨.ref a,H,I,rfl,q a H (Same.refl _) (by rw[Ec hw];exact hx)⟩
 ·exact sl_tup (X:=X) pins s σ H _ v vl vu lo hi sl Q I rx hs pl pu ⟨a,xs,rfl,SqT.of hx,hw,fun p hp=>q p _ (same_new hp _) upd_same⟩
def Lr:R2:=fun x y H Q=>∃a b xs ys,x=.ref a∧y=.ref b∧H a=some (.tup xs)∧H b=some (.tup ys)∧xs.length+ys.length≤sizeLine∧∀p H',Same H H'->H' p=some (.tup (xs++ys))->Q (.ref p) H'
theorem Hc:OpR X (binaryOp .Add) Lr:=by
 intro pins s σ H x y v u Q I rx ry h
 obtain⟨a,b,xs,ys,rfl,rfl,ha,hb,hz,q⟩:=h
 by_cases hx:xs=[]
 ·cases rx
  cases ry
  obtain⟨its,r1,p1,_⟩:=I.tuple (SqT.of ha)
  obtain⟨its2,r2,p2,_⟩:=I.tuple (SqT.of hb)
  exact HT.Dz p1 p2 (r1.nil_iff.mpr hx) ⟨.ref b,H,I,rfl,q b H (Same.refl _) (by rw[hx,List.nil_append];exact hb)⟩
 ·exact op_catT (X:=X) pins s σ H _ _ v u Q I rx ry ⟨a,b,xs,ys,rfl,rfl,SqT.of ha,SqT.of hb,hx,hz,fun e=>q a H (Same.refl _) (by rw[e,List.append_nil];exact ha),fun _ p hp=>q p _ (same_new hp _) upd_same⟩
end
mutual
inductive RepF(H:Hp):Bool->V->PyData->Prop
 |non {f:Bool}:RepF H f .non .none
 |bl {f:Bool} (b:Bool):RepF H f (.bl b) (.bool b)
 |int {f:Bool} (i:Int):RepF H f (.int i) (.int i)
 |str {f:Bool} (x:Str):RepF H f (.str x) (.str x)
 |lst {f:Bool}{a:Addr}{xs:List V}{ds:List PyData}:H a=some (.lst xs)->RepsF H f xs ds->RepF H f (.ref a) (.list ds)
 |tup {f:Bool}{a:Addr}{xs:List V}{ds:List PyData}:H a=some (.tup xs)->RepsF H f xs ds->RepF H f (.ref a) (.tuple ds)
 |d0 {a:Addr}:H a=some (.dK [])->RepF H false (.ref a) (.dict [])
 |d1 {a:Addr}{i j:Int}:H a=some (.dK [(.inl i,.int j)])->RepF H false (.ref a) (.dict [(.int i,.int j)])
inductive RepsF(H:Hp):Bool->List V->List PyData->Prop
 |nil {f:Bool}:RepsF H f [] []
 |cons {f:Bool}{v:V}{d:PyData}{vs:List V}{ds:List PyData}:RepF H f v d->RepsF H f vs ds->RepsF H f (v::vs) (d::ds)
end
section
variable{X:Cx}{pins:List (Addr×Obj)}{σ:St}{H:Hp}{s:Shared}
theorem G6 {P:Program}{w:World}{i:Int}{v:Value} (h:(mixKind P w).is (.inl i) v=true):∃ t,v=.int i t:=by
 cases v with
 | int a t=>
   have e:decide (i=a)=true∨decide (a=i)=true∨(a==i)=true∨(i==a)=true:=by
    first | exact .inl h | exact .inr (.inl h) | exact .inr (.inr (.inl h)) | exact .inr (.inr (.inr h))
   have:a=i:=by rcases e with e | e | e | e<;>simp at e<;>lia
   exact⟨t,by rw[this]⟩
 |_=>first | cases h | (simp[mixKind] at h)
theorem zX(I:Inv X pins σ H s){a:Addr}(h:H a=some (.dK [])):∃as,Reads s.heap (.ref a) (.dict []) as∧sysModules∉as:=by
 obtain⟨_,hd,vs,r0,⟨o,es,ep,h1,h2,h3,h4,h5,h6⟩⟩:([]:List (Key×V)).length≤sizeLine∧(a==sysModules)=false∧∃vs,KV [] vs∧s.heap.DictOf (mixKind X.prog X.w) a vs:=I.hok a _ h
 cases r0
 have he:es.toList=[]:=by cases hx:es.toList with
  |nil=>rfl
  |cons e es'=>rw[hx] at h5;cases h5
 refine⟨_,.dict (kvs:=[]) h1 h2.1 h3 (by rw[he];exact .nil) (by rw[he];exact .nil),?_⟩
 simp only[List.append_nil,List.mem_singleton]
 exact fun z=>(beq_eq_false_iff_ne.mp hd) z.symm
theorem zY (I:Inv X pins σ H s) {a:Addr}{i j:Int} (h:H a=some (.dK [(.inl i,.int j)])):∃ as,Reads s.heap (.ref a) (.dict [(.int i,.int j)]) as∧sysModules∉as:=by
 obtain⟨_,hd,vs,r0,⟨o,es,ep,h1,h2,h3,h4,h5,h6⟩⟩:([(Sum.inl i,V.int j)]:List (Key×V)).length≤sizeLine∧(a==sysModules)=false∧∃vs,KV [(Sum.inl i,V.int j)] vs∧s.heap.DictOf (mixKind X.prog X.w) a vs:=I.hok a _ h
 cases r0 with
 | @cons p q ps qs hq t=>
   cases t
   obtain⟨e1,tv,e2⟩:=hq
   obtain⟨q1,q2⟩:=q
   dsimp only at e1 e2
   subst e1 e2
   generalize hx:es.toList=el at h5
   cases h5 with
   |cons g1 g2 g3=>
     cases g3
     rename_i e
     obtain⟨tk,ek⟩:=G6 g1
     dsimp only at g2
     refine⟨_,.dict (kvs:=[(.int i,.int j)]) h1 h2.1 h3 (as:=[]++[]) (bs:=[]++[]) (by rw[hx];exact .cons (by show Reads _ e.key _ _;rw[ek];exact .int i tk) .nil) (by rw[hx];exact .cons (by show Reads _ e.val _ _;rw[g2];exact .int j tv) .nil),?_⟩
     simp only[List.append_nil,List.mem_singleton]
     exact fun z=>(beq_eq_false_iff_ne.mp hd) z.symm
theorem RepsF.reads (I:Inv X pins σ H s) {f:Bool}{vs:List V}{ds:List PyData}{us:List Value} (h:RepsF H f vs ds):Vals vs us->∃ as,ReadsAll s.heap us ds as:=
 RepsF.rec (motive_1:=fun f v d _=>∀ u,RelV v u->∃ as,Reads s.heap u d as) (motive_2:=fun f vs ds _=>∀ us,Vals vs us->∃ as,ReadsAll s.heap us ds as)
  (fun u r=>by cases r;exact⟨_,.none⟩)
  (fun b u r=>by cases r;exact⟨_,.bool b⟩)
  (fun i u r=>by obtain⟨t,rfl⟩:=r;exact⟨_,.int i t⟩)
  (fun i u r=>by obtain⟨t,rfl⟩:=r;exact⟨_,.str i t⟩)
  (fun h hs ih u r=>by
    cases r
    obtain⟨its,rv,⟨o,n,h1,h2,_,h3⟩,_⟩:=I.list (SqL.of h)
    obtain⟨as,ra⟩:=ih _ rv
    exact⟨_,.list h1 h2 h3 ra⟩)
  (fun h hs ih u r=>by
    cases r
    obtain⟨its,rv,⟨o,h1,h2,n,h3⟩,_⟩:=I.tuple (SqT.of h)
    obtain⟨as,ra⟩:=ih _ rv
    exact⟨_,.tuple h1 h2 h3 ra⟩)
  (fun h u r=>by cases r;obtain⟨as,ra,_⟩:=zX I h;exact⟨as,ra⟩)
  (fun h u r=>by cases r;obtain⟨as,ra,_⟩:=zY I h;exact⟨as,ra⟩)
  (fun u r=>by cases r;exact⟨_,.nil⟩)
  (fun h hs i1 i2 u r=>by
    cases r with
    |cons r1 r2=>
      obtain⟨a1,e1⟩:=i1 _ r1
      obtain⟨a2,e2⟩:=i2 _ r2
      exact⟨_,.cons e1 e2⟩)
  h us
theorem vJ{a:Addr}{d:PyData}{as bs:List Addr}{n:Nat}(r:Reads s.heap (.ref a) d as)(hd:d.depth=n+1)(hb:ReadAtMost s.heap n bs):a∉bs∧ReadAtMost s.heap d.depth (a::bs):=
 ⟨not_mem_of_deeper r (by lia) hb,hd ▸ ReadAtMost.cons r (by lia) hb⟩
theorem RepsF.k (I:Inv X pins σ H s) {f:Bool}{vs:List V}{ds:List PyData}{us:List Value} (h:RepsF H f vs ds):Vals vs us->PyData.showableAll ds=true->(∀ t∈PyData.shownAll ds,t.length≤sizeLine)->∃ bs,ReadAtMost s.heap (PyData.depthAll ds) bs∧ReprAllK X.prog X.w bs s.heap (PyData.depthAll ds) us (PyData.shownAll ds):=
 RepsF.rec (motive_1:=fun f v d _=>∀ u,RelV v u->d.showable=true->d.shown.length≤sizeLine->∃ bs,ReadAtMost s.heap d.depth bs∧ReprK X.prog X.w bs s.heap d.depth u d.shown) (motive_2:=fun f vs ds _=>∀ us,Vals vs us->PyData.showableAll ds=true->(∀ t∈PyData.shownAll ds,t.length≤sizeLine)->∃ bs,ReadAtMost s.heap (PyData.depthAll ds) bs∧ReprAllK X.prog X.w bs s.heap (PyData.depthAll ds) us (PyData.shownAll ds))
  (fun u r hs hz=>by cases r;exact ReprK.of_reads .none hs (fun z=>by simp[PyData.hasDict] at z) hz)
  (fun b u r hs hz=>by cases r;exact ReprK.of_reads (.bool b) hs (fun z=>by simp[PyData.hasDict] at z) hz)
  (fun i u r hs hz=>by obtain⟨t,rfl⟩:=r;exact ReprK.of_reads (.int i t) hs (fun z=>by simp[PyData.hasDict] at z) hz)
  (fun i u r hs hz=>by obtain⟨t,rfl⟩:=r;exact ReprK.of_reads (.str i t) hs (fun z=>by simp[PyData.hasDict] at z) hz)
  (fun {_ _ _ xs} h hs ih u r hs' hz=>by
    cases r
    obtain⟨its,rv,⟨o,n,h1,h2,_,h3⟩,_⟩:=I.list (SqL.of h)
    obtain⟨as,ra⟩:=RepsF.reads I hs rv
    have hz':(listText (PyData.shownAll xs)).length≤sizeLine:=by simpa only[PyData.shown] using hz
    obtain⟨bs,hb,hk⟩:=ih _ rv (by simpa only[PyData.showable] using hs') fun t ht=>Nat.le_trans (listText_mem_le ht) hz'
    obtain⟨hn,hc⟩:=vJ (.list h1 h2 h3 ra) (by simp only[PyData.depth]) hb
    refine⟨_,hc,?_⟩
    simp only[PyData.depth,PyData.shown]
    cases its with
    |nil=>
      cases ra
      simp only[PyData.shownAll,listText_nil]
      exact ReprK.listEmpty h1 h2 h3
    |cons x l=>exact ReprK.list h1 h2 h3 hn (by simpa using hk.length_eq) fun i y e=>hk.item i y (by simpa using e))
  (fun {_ _ _ xs} h hs ih u r hs' hz=>by
    cases r
    obtain⟨its,rv,⟨o,h1,h2,n,h3⟩,_⟩:=I.tuple (SqT.of h)
    obtain⟨as,ra⟩:=RepsF.reads I hs rv
    have hz':(tupleText (PyData.shownAll xs)).length≤sizeLine:=by simpa only[PyData.shown] using hz
    obtain⟨bs,hb,hk⟩:=ih _ rv (by simpa only[PyData.showable] using hs') fun t ht=>Nat.le_trans (tupleText_mem_le ht) hz'
    obtain⟨hn,hc⟩:=vJ (.tuple h1 h2 h3 ra) (by simp only[PyData.depth]) hb
    refine⟨_,hc,?_⟩
    simp only[PyData.depth,PyData.shown]
    exact ReprK.tuple h1 h2 h3 hn hk)
  (fun h u r hs hz=>by cases r;obtain⟨as,ra,n⟩:=zX I h;exact ReprK.of_reads ra hs (fun _=>n) hz)
  (fun h u r hs hz=>by cases r;obtain⟨as,ra,n⟩:=zY I h;exact ReprK.of_reads ra hs (fun _=>n) hz)
  (fun us r _ _=>by cases r;exact⟨[],(fun _ h=>nomatch h),by simp only[PyData.shownAll];exact .nil⟩)
  (fun {_ _ d _ ds} h hs i1 i2 us r hs' hz=>by
    cases r with
    |cons r1 r2=>
      have hh:d.showable=true∧PyData.showableAll ds=true:=by simpa[PyData.showableAll] using hs'
      obtain⟨b1,q1,k1⟩:=i1 _ r1 hh.1 (hz _ (by simp only[PyData.shownAll];exact .head _))
      obtain⟨b2,q2,k2⟩:=i2 _ r2 hh.2 fun t ht=>hz t (by simp only[PyData.shownAll];exact .tail _ ht)
      simp only[PyData.depthAll,PyData.shownAll]
      exact⟨b1++b2,(q1.mono (Nat.le_max_left _ _)).append (q2.mono (Nat.le_max_right _ _)),.cons ((k1.more fun b hb=>List.mem_append_left _ hb).level_le (Nat.le_max_left _ _)) (k2.more_le (fun b hb=>List.mem_append_right _ hb) (Nat.le_max_right _ _))⟩)
  h us
end
theorem RepF.toRep{K:PySem.W.Frag}{H:Hp}{v:V}{d:PyData}(h:RepF H true v d):Rep K H v d:=
 RepF.rec (motive_1:=fun f v d _=>f=true->Rep K H v d) (motive_2:=fun f vs ds _=>f=true->Reps K H vs ds) (fun _=>.non) (fun b _=>.bl b) (fun b _=>.int b) (fun b _=>.str b) (fun h _ i e=>.lst (SqL.of h) (i e)) (fun h _ i e=>.tup (SqT.of h) (i e)) (fun _ e=>nomatch e) (fun _ e=>nomatch e) (fun _=>.nil) (fun _ _ i j e=>.cons (i e) (j e)) h rfl
mutual
def dG:PyData->Nat
 |.none | .bool _=>5
 |.int _=>1921
 |.str x=>(reprText x).length
 |.list xs | .tuple xs=>f9 xs+3
 |.dict _=>8000
def f9:List PyData->Nat
 |[]=>0
 |x::xs=>dG x+2+f9 xs
end
theorem iT:∀xs:List PyData,(PyData.shownAll xs).length=xs.length
 |[]=>by simp only[PyData.shownAll,List.length_nil]
 |x::xs=>by simp only[PyData.shownAll,List.length_cons,iT xs]
theorem Ad {H:Hp}{f:Bool}{v:V}{d:PyData} (h:RepF H f v d):d.showable=true->d.shown.length≤dG d:=
 RepF.rec (motive_1:=fun _ _ d _=>d.showable=true->d.shown.length≤dG d) (motive_2:=fun _ _ xs _=>PyData.showableAll xs=true->((PyData.shownAll xs).map (·.length)).sum + 2 * xs.length≤f9 xs)
  (fun _=>by simp only[PyData.shown,dG];decide +kernel)
  (fun b _=>by cases b<;>simp only[PyData.shown,dG]<;>decide +kernel)
  (fun i h=>by
    have h':i.natAbs.log2<1920:=by simpa[PyData.showable] using h
    simp only[PyData.shown,dG]
    exact int_text_len_1921 h')
  (fun x _=>by simp only[PyData.shown,dG];exact Nat.le_refl _)
  (fun {_ _ _ xs} _ hs ih h=>by
    have:=ih (by simpa only[PyData.showable] using h)
    have l:=listText_len_le (PyData.shownAll xs)
    rw[iT] at l
    simp only[PyData.shown,dG]
    lia)
  (fun {_ _ _ xs} _ hs ih h=>by
    have:=ih (by simpa only[PyData.showable] using h)
    have l:=tupleText_len_le (PyData.shownAll xs)
    rw[iT] at l
    simp only[PyData.shown,dG]
    lia)
  (fun _ _=>by simp only[PyData.shown,PyData.shownKv,dG];decide +kernel)
  (fun {_ i j} _ h=>by
    have h':i.natAbs.log2<1920∧j.natAbs.log2<1920:=by simpa[PyData.showable,PyData.showableKv] using h
    have l1:=int_text_len_1921 h'.1
    have l2:=int_text_len_1921 h'.2
    have l:=dictText_len_le (PyData.shownKv [(.int i,.int j)])
    simp only[PyData.shown,dG]
    refine Nat.le_trans l ?_
    simp only[PyData.shownKv,PyData.shown,List.map_cons,List.map_nil,List.sum_cons,List.sum_nil,List.length_cons,List.length_nil,strLen_append]
    have l3:(Str.ofString ": ").length=2:=by decide +kernel
    have l3':(": ":Str).length=2:=by decide +kernel
    lia)
  (fun _=>by simp only[PyData.shownAll,List.map_nil,List.sum_nil,List.length_nil,f9];lia)
  (fun {_ _ x _ xs} hx hs i1 i2 h=>by
    have h':x.showable=true∧PyData.showableAll xs=true:=by simpa[PyData.showableAll] using h
    have a:=i1 h'.1
    have b:=i2 h'.2
    simp only[PyData.shownAll,List.map_cons,List.sum_cons,List.length_cons,f9]
    lia)
  h
section
variable{X:Cx}
def J9:List V->Hp->VK->Prop:=fun xs H Q=>∃f v d,xs=[v]∧RepF H f v d∧d.showable=true∧d.depth≤60∧dG d≤sizeLine∧Q (.str d.shown) H
theorem zy (hg:X.A.guards=some []) (hu:X.A.units + 64<cLine):CallR X (.builtin "repr") J9:=by
 intro pins s σ H xs us Q I r h
 obtain⟨f,v,d,rfl,rd,ho,hd,hz,q⟩:=h
 have hz':=Nat.le_trans (Ad rd ho) hz
 obtain⟨u,rfl,ru⟩:=vals1 r
 cases rd with
 |non=>cases ru;exact P.repr_of_none ⟨.str _,H,I.tok _,⟨_,rfl⟩,(by simpa only[PyData.shown] using q)⟩
 |bl b=>cases ru;exact P.repr_of_bool ⟨.str _,H,I.tok _,⟨_,rfl⟩,(by simpa only[PyData.shown] using q)⟩
 |int i=>
   obtain⟨t,rfl⟩:=ru
   exact P.repr_of_int (by simpa[PyData.showable] using ho) ⟨.str _,H,I.tok _,⟨_,rfl⟩,(by simpa only[PyData.shown] using q)⟩
 |str x=>
   obtain⟨t,rfl⟩:=ru
   exact P.repr_of_str ⟨.str _,H,I.tok _,⟨_,rfl⟩,(by simpa only[PyData.shown] using q)⟩ (by simpa only[PyData.shown] using hz')
 | lst h hs=>
   cases ru
   obtain⟨its,rv,⟨o,n,h1,h2,_,h3⟩,_⟩:=I.list (SqL.of h)
   obtain⟨as,ra⟩:=RepsF.reads I hs rv
   simp only[PyData.shown] at hz' q
   obtain⟨bs,hb,hk⟩:=RepsF.k I hs rv (by simpa only[PyData.showable] using ho) fun t ht=>Nat.le_trans (listText_mem_le ht) hz'
   simp only[PyData.depth] at hd
   refine call_repr_slot (by lia) ⟨_,h1,h2⟩ F.slot_list_repr.toG ?_
   cases its with
   |nil=>
     cases ra
     simp only[PyData.shownAll,listText_nil] at q
     exact call_list_repr_empty ⟨o,h1,h2⟩ h1 h3 ⟨_,_,rfl,.str _,H,I.kept fun _ _ e=>e,⟨_,rfl⟩,q⟩
   |cons x l=>
     exact call_list_reprK h1 h2 h3 (vJ (.list h1 h2 h3 ra) (by simp only[PyData.depth]) hb).1 (by simpa using hk.length_eq) (fun i y e=>hk.item i y (by simpa using e)) hg (fun b _=>Clear.nil b) (by show X.A.units+1+_<_;lia) (fun _ _ e=>e) (fun h' u tk hk=>⟨_,_,rfl,.str _,H,I.kept hk,⟨_,rfl⟩,q⟩) hz'
 |tup h hs=>
   cases ru
   obtain⟨its,rv,⟨o,h1,h2,n,h3⟩,_⟩:=I.tuple (SqT.of h)
   obtain⟨as,ra⟩:=RepsF.reads I hs rv
   simp only[PyData.shown] at hz' q
   obtain⟨bs,hb,hk⟩:=RepsF.k I hs rv (by simpa only[PyData.showable] using ho) fun t ht=>Nat.le_trans (tupleText_mem_le ht) hz'
   simp only[PyData.depth] at hd
   refine call_repr_slot (by lia) ⟨_,h1,h2⟩ F.slot_tuple_repr ?_
   exact call_tuple_reprK h1 h2 h3 (vJ (.tuple h1 h2 h3 ra) (by simp only[PyData.depth]) hb).1 hk hg (fun b _=>Clear.nil b) (by show X.A.units+1+_<_;lia) (fun _ _ e=>e) (fun h' u tk hk=>⟨_,_,rfl,.str _,H,I.kept hk,⟨_,rfl⟩,q⟩) hz'
 |d0 h=>
   obtain⟨as,ra,nn⟩:=zX I h
   cases ru
   exact repr_of_reads' ra ho (fun _=>nn) hg (by lia) (fun _ _ e=>e) (fun h' u tk hk=>⟨.str _,H,I.kept hk,⟨_,rfl⟩,q⟩) hz'
 |d1 h=>
   obtain⟨as,ra,nn⟩:=zY I h
   cases ru
   exact repr_of_reads' ra ho (fun _=>nn) hg (by lia) (fun _ _ e=>e) (fun h' u tk hk=>⟨.str _,H,I.kept hk,⟨_,rfl⟩,q⟩) hz'
end
theorem Nj(hc:CallR X (.type T) r)(hm:X.mg x=none)(ha:PA X (e::es) t)(hg:Gl X x:=by rfl)(hv:bootBuiltins x=some (.type T):=by decide +kernel)(hn:x≠"__name__":=by decide)(hdb:(x==("__debug__":Str))=false:=by decide)
  (he:starEach (e::es) X.env=(false,eval e X.env)::starEach es X.env:=by rfl) (hpl:(backTo pos (starEach es X.env)).any (·.1)=false:=by rfl) :
  PE X (.Call (.Name x p) (e::es) [] pos) (tCB r t):=pe_callTy hc hg hm hv ha hn hdb he hpl
def notStar:Expr->Bool
 |.Starred _ _=>false
 |_=>true
theorem bF(h:notStar e=true):starEach (e::es) env=(false,eval e env)::starEach es env:=by
 cases e<;>first | rfl | cases h
theorem xq(ha:PE X e te)(hr:PA X es t)(hs:notStar e=true:=by rfl):PA X (e::es) (tCons te t):=pa_cons ha hr (bF hs)
structure QI(X:Cx)(tg l:Expr)(wi:TI):Prop where
 h:PI X tg l wi
structure QA(X:Cx)(es:List Expr)(t:TA):Prop where
 h:PA X es t
theorem J8:QA X [] tNil:=⟨pa_nil⟩
theorem Nk(ha:PE X e te)(hr:QA X es t)(hs:notStar e=true:=by rfl):QA X (e::es) (tCons te t):=⟨xq ha hr.h hs⟩
section
variable{X:Cx}{j k:Nat}{ps:List Str}{sp:Sp}{x:Str}{p pos:Pos}{e:Expr}{es:List Expr}{t:TA}{E:XK}
theorem Hk{x1}(h:QA X es t):PE X (.Tuple es x1 pos) (tTup t):=pe_tup h.h
theorem yP(h:QA X es t):PE X (.List es pos) (tLst t):=pe_lst h.h
theorem vg(D:DefC X.prog X.w X.K X.mg X.base j x ps sp)(hr:Room k X.A)(hx:Passes (bM X.prog X.w) X E)(ha:QA X (e::es) t)(hjk:j≤k:=by decide)(hg:Gl X x:=by rfl)(hdb:(x==("__debug__":Str))=false:=by decide)
  (he:notStar e=true:=by rfl) (hpl:(backTo pos (starEach es X.env)).any (·.1)=false:=by rfl) :
  PE X (.Call (.Name x p) (e::es) [] pos) (tCall sp [] E t):=Ex D hr hx ha.h hjk hg hdb (bF he) hpl
theorem Lk{id:String}{r:List V->Hp->VK->Prop}(hc:CallR X (.builtin id) r)(hm:X.mg x=none)(ha:QA X (e::es) t)(hg:Gl X x:=by rfl)(hv:bootBuiltins x=some (.builtin id):=by decide +kernel)(hn:x≠"__name__":=by decide)(hdb:(x==("__debug__":Str))=false:=by decide)
  (he:notStar e=true:=by rfl) (hpl:(backTo pos (starEach es X.env)).any (·.1)=false:=by rfl) :
  PE X (.Call (.Name x p) (e::es) [] pos) (tCB r t):=Ni hc hm ha.h hg hv hn hdb (bF he) hpl
theorem Lp(hc:CallR X (.type T) r)(hm:X.mg x=none)(ha:QA X (e::es) t)(hg:Gl X x:=by rfl)(hv:bootBuiltins x=some (.type T):=by decide +kernel)(hn:x≠"__name__":=by decide)(hdb:(x==("__debug__":Str))=false:=by decide)
  (he:notStar e=true:=by rfl) (hpl:(backTo pos (starEach es X.env)).any (·.1)=false:=by rfl) :
  PE X (.Call (.Name x p) (e::es) [] pos) (tCB r t):=Nj hc hm ha.h hg hv hn hdb (bF he) hpl
theorem J0 {T name id:String}{r:V->List V->Hp->VK->Prop}{o:Expr}{to:TE}{apos cpos:Pos} (pa:PlainAttrs T) (slot:Slot T name id) (hty:typeOf (.builtin id)=pure (.type "method_descriptor")) (hm:MtR X id r) (ho:PE X o to) (ha:QA X (e::es) t)
  (hbase:attributeBase o name X.env (eval o X.env)=eval o X.env:=by rfl)
  (hfew:((backTo cpos (starEach (e::es) X.env)).all (fun x=>!x.1)&&(backToKw cpos (keywordEach [] X.env)).all (fun x=>x.1.isSome)
   &&decide ((e::es).length+([]:List Keyword).length+(if ([]:List Keyword).isEmpty then 0 else 1)<30))=true:=by rfl)
  (hline:(apos.endLine==cpos.line)=true:=by rfl) (hs:notStar e=true:=by rfl) (hplain:(backTo cpos (starEach es X.env)).any (·.1)=false:=by rfl) :
  PE X (.Call (.Attribute o name apos) (e::es) [] cpos) (tBM X.K T r to t):=pe_bm pa slot hty hm ho ha.h hbase hfew hline (bF hs) hplain
theorem zT(hg:Gl X "range")(hm:X.mg "range"=none)(ha:QA X [a] ta)(hs:notStar a=true:=by rfl):QI X tg (.Call (.Name "range" p) [a] [] pos) (iRng1 ta):=⟨pi_range1 hg hm ha.h (bF hs)⟩
end
def wu{α:Type}(P:α->Prop):List α->Prop
 |[]=>True
 |a::l=>P a∧wu P l
theorem lO:∀ {l:List α},wu P l->∀ a∈l,P a
 |[],_,_,h=>nomatch h
 |b::l,h,a,hm=>by
   rcases List.mem_cons.mp hm with rfl | hm
   ·exact h.1
   ·exact lO h.2 a hm
theorem mem_of_lookup:∀ {l:List (Str×β)},l.lookup y=some c->(y,c)∈l
 |[],h=>by cases h
 | (z,d)::l,h=>by
   rw[List.lookup_cons] at h
   split at h
   ·rename_i e
    have e':y=z:=by simpa using e
    cases h
    rw[e'];exact List.mem_cons_self ..
   ·exact List.mem_cons_of_mem _ (mem_of_lookup h)
theorem Dc{cl cells:List (Str×Addr)}(h:wu (fun p=>cells.lookup p.1=some p.2) cl):∀y c,cl.lookup y=some c->cells.lookup y=some c:=fun y c e=>lO h (y,c) (mem_of_lookup e)
def Ej:NameKind->Bool
 |.cell | .free=>true
 |_=>false
theorem BP{names:List (Str×NameKind)}{cl:List (Str×Addr)}(h:(names.all fun p=>!Ej p.2 || (cl.lookup p.1).isSome)=true):∀y,(names.lookup y=some .cell∨names.lookup y=some .free)->∃c,cl.lookup y=some c:=fun y e=>by
 have hh:=List.all_eq_true.mp h
 rcases e with e | e
 ·have:=hh _ (mem_of_lookup e)
  simp only[Ej,Bool.not_true,Bool.false_or] at this
  exact Option.isSome_iff_exists.mp this
 ·have:=hh _ (mem_of_lookup e)
  simp only[Ej,Bool.not_true,Bool.false_or] at this
  exact Option.isSome_iff_exists.mp this
theorem By{js:List Nat}{fr:List Str}{P:Nat->Str->Prop}(h:wu (fun p:Nat×Str=>P p.1 p.2) (js.zip fr)):∀(k j:Nat) (y:Str),js[k]?=some j->fr[k]?=some y->P j y:=fun k j y h1 h2=>by
 refine lO h (j,y) (List.mem_iff_getElem?.mpr ⟨k,?_⟩)
 rw[List.getElem?_zip_eq_some]
 exact⟨h1,h2⟩
section
variable{X:Cx}
theorem Ei:entryFor table "tuple_iterator.__iter__"=some Builtin.«dict_keyiterator.__iter__»:=
 entryFor_alias (id' := "dict_keyiterator.__iter__") (by kernel_rfl) rfl (by decide +kernel) (by kernel_rfl)
theorem uv(hit:IsTupIter s.heap it t i)(h:Q (.ref it) s) :
  wpAny (model prog w) A (pyIter (.ref it)) Q E s:=by
 refine wpAny_pyIter_slot hit.typeIs F.slot_tuple_iterator_iter (wpAny_call_entry F.slot_tuple_iterator_iter hit.typeIs Ei ?_ (F.args_tuple_iterator_iter_1 _))
 show wpAny _ _ (ret (.ref it)) _ _ s
 exact wpAny_pure ⟨_,rfl, "tuple_iterator",_,hit.typeIs,slot_tupleiter_next.lookup,h⟩
theorem Dm(hh:A.handled=none)(I ax:Addr)(hne:ax≠I)(items:Array Value) :
  Walks prog w A I [I,ax] [I] items.size (fun i v=>items[i]?=some v) (fun i h=>IsTupIter h I ax i∧IsTup h ax items) where
 sub:=fun b hb=>by simp at hb;simp[hb]
 frame:=fun i h h' st hk=>by
  obtain⟨⟨o,e1,e2⟩,⟨o',f1,f2⟩⟩:=st
  exact⟨⟨o,hk I (by simp) o e1,e2⟩,⟨o',hk ax (by simp) o' f1,f2⟩⟩
 item:=fun i s Q E hi st hQ=>by
  refine next_tuple_item st.1 st.2 (x:=items[i]) (by simp[hi]) fun h' hit' hs'=>?_
  exact hQ _ h' s.toks (by simp[hi]) ⟨hit',st.2.extBut hs'.extBut hne⟩ fun b o hb e=>hs'.extBut b o (fun h=>hb (by simp[h])) e
 done:=fun s Q E st hQ=>next_tuple_end hh st.1 st.2 (by simp) fun h' he'=>hQ h' s.toks fun b o hb e=>he' b o (fun h=>hb (by simp[h])) e
 self:=fun _ _ _ _ st hQ=>uv st.1 hQ
def gB:V->Bool
 |.bl b=>b
 |.int i=>i != 0
 |_=>false
def scS:V->Bool
 |.bl _=>true
 |.int _=>true
 |_=>false
theorem Di(h:scS v=true)(r:RelV v u)(q:Q (gB v) s):wpAny (model prog w) A (truthy u) Q E s:=by
 cases v with
 |bl b=>cases r;exact wpAny_truthy_bool q
 |int i=>obtain⟨t,rfl⟩:=r;exact PyProof.Rows.truthy_int q
 |_=>cases h
theorem range_all{xs:List V}{tr:Nat->Bool}(h:∀(i:Nat) (x:V),xs[i]?=some x->tr i=gB x):(List.range xs.length).all tr=xs.all gB:=by
 rw[Bool.eq_iff_iff,List.all_eq_true,List.all_eq_true]
 constructor
 ·intro q x hx
  obtain⟨i,hi,e⟩:=List.mem_iff_getElem.mp hx
  have:=q i (List.mem_range.mpr hi)
  rw[h i x (by rw[List.getElem?_eq_getElem hi,e])] at this
  exact this
 ·intro q i hi
  have hi':=List.mem_range.mp hi
  rw[h i xs[i] (List.getElem?_eq_getElem hi')]
  exact q _ (List.getElem_mem hi')
theorem range_any{xs:List V}{tr:Nat->Bool}(h:∀(i:Nat) (x:V),xs[i]?=some x->tr i=gB x):(List.range xs.length).any tr=xs.any gB:=by
 rw[Bool.eq_iff_iff,List.any_eq_true,List.any_eq_true]
 constructor
 ·rintro⟨i,hi,e⟩
  have hi':=List.mem_range.mp hi
  rw[h i xs[i] (List.getElem?_eq_getElem hi')] at e
  exact⟨_,List.getElem_mem hi',e⟩
 ·rintro⟨x,hx,e⟩
  obtain⟨i,hi,ex⟩:=List.mem_iff_getElem.mp hx
  refine⟨i,List.mem_range.mpr hi,?_⟩
  rw[h i x (by rw[List.getElem?_eq_getElem hi,ex])]
  exact e
theorem Gn{xs:List V}{its:List Value}(rv:Vals xs its)(hs:∀x∈xs,scS x=true):TruthOf prog w A (fun i v=>its.toArray[i]?=some v) (fun i=>gB (xs[i]?.getD .non)):=by
 intro i v s Q E hP hQ
 have e:its[i]?=some v:=by simpa using hP
 have hl:=rv.length
 have hi:i<xs.length:=by rw[hl];exact (List.getElem?_eq_some_iff.mp e).1
 obtain⟨u,e2,r⟩:=rv.get (List.getElem?_eq_getElem hi)
 rw[e] at e2
 cases e2
 refine Di (hs _ (List.getElem_mem hi)) r ?_
 have hQ':Q (gB (xs[i]?.getD V.non)) s:=hQ
 rw[List.getElem?_eq_getElem hi] at hQ'
 exact hQ'
theorem Dv(hh:X.A.handled=none):CallR X (.builtin "all") (fun vs H Q=>∃l xs,vs=[.ref l]∧H l=some (.lst xs)∧(∀x∈xs,scS x=true)∧Q (.bl (xs.all gB)) H):=by
 intro pins s σ H vs us Q I r h
 obtain⟨l,xs,rfl,hH,hs,q⟩:=h
 obtain⟨u,rfl,ru⟩:=vals1 r
 cases ru
 obtain⟨its,rv,p,hz⟩:=I.list (SqL.of (K:=X.K) hH)
 have hl:l<s.heap.objs.size:=by obtain⟨o,n,e,_⟩:=p;exact Heap.lt_size e
 refine call_all_walk (wpAny_pyIter_list p.isList ?_)
 refine⟨s.heap.objs.size,[s.heap.objs.size,l],[s.heap.objs.size],its.toArray.size,fun i v=>its.toArray[i]?=some v,fun i h=>h.IsListIter s.heap.objs.size l i∧h.IsList l its.toArray,fun i=>gB (xs[i]?.getD .non),rfl,Walks.list (A:=X.A.in1) hh s.heap.objs.size l (Nat.ne_of_lt hl) its.toArray,⟨⟨_,Heap.get?_push_size _ rfl,rfl,rfl⟩,p.isList.at fun o e=>Heap.get?_push_of_some _ e⟩,Gn rv hs,fun h' tk hk=>?_⟩
 refine⟨.bl (xs.all gB),H,I.kept fun b o e=>hk b o (fun z=>?_) (Heap.get?_push_of_some _ e),?_,q⟩
 ·have:b=s.heap.objs.size:=by simpa using z
  exact absurd (Heap.lt_size e) (by rw[this];exact Nat.lt_irrefl _)
 ·rw[show its.toArray.size=xs.length by rw[List.size_toArray];exact rv.length.symm]
  show Value.bool _=Value.bool _
  rw[range_all fun i x e=>by rw[e];rfl]
theorem Dw(hh:X.A.handled=none):CallR X (.builtin "any") (fun vs H Q=>∃l xs,vs=[.ref l]∧H l=some (.tup xs)∧(∀x∈xs,scS x=true)∧Q (.bl (xs.any gB)) H):=by
 intro pins s σ H vs us Q I r h
 obtain⟨l,xs,rfl,hH,hs,q⟩:=h
 obtain⟨u,rfl,ru⟩:=vals1 r
 cases ru
 obtain⟨its,rv,p,hz⟩:=I.tuple (SqT.of (K:=X.K) hH)
 have hl:l<s.heap.objs.size:=by obtain⟨o,e,_⟩:=p;exact Heap.lt_size e
 refine call_any_walk (iter_tuple p ?_)
 refine⟨s.heap.objs.size,[s.heap.objs.size,l],[s.heap.objs.size],its.toArray.size,fun i v=>its.toArray[i]?=some v,fun i h=>IsTupIter h s.heap.objs.size l i∧IsTup h l its.toArray,fun i=>gB (xs[i]?.getD .non),rfl,Dm (A:=X.A.in1) hh s.heap.objs.size l (Nat.ne_of_lt hl) its.toArray,⟨⟨_,Heap.get?_push_size _ rfl,rfl,rfl⟩,?_⟩,Gn rv hs,fun h' tk hk=>?_⟩
 ·obtain⟨o',f1,f2⟩:=p
  exact⟨o',Heap.get?_push_of_some _ f1,f2⟩
 refine⟨.bl (xs.any gB),H,I.kept fun b o e=>hk b o (fun z=>?_) (Heap.get?_push_of_some _ e),?_,q⟩
 ·have:b=s.heap.objs.size:=by simpa using z
  exact absurd (Heap.lt_size e) (by rw[this];exact Nat.lt_irrefl _)
 ·rw[show its.toArray.size=xs.length by rw[List.size_toArray];exact rv.length.symm]
  show Value.bool _=Value.bool _
  rw[range_any fun i x e=>by rw[e];rfl]
def Nx(tv:TE):TE:=fun σ H Q=>tv σ H fun x H1=>∃i:Int,x=.int i∧i.natAbs.log2<1920∧Q (.str (toString i)) H1
theorem J3(he:PE X e tv):PE X (.FormattedValue e (-1) none pos) (Nx tv):=by
 intro pins s σ H Q I h
 refine FormattedValue_plain (thn (he pins s σ H _ I h) fun v s1 ⟨x,H1,I1,r1,q1⟩=>?_)
 obtain⟨i,rfl,hl,q⟩:=q1
 obtain⟨t,rfl⟩:=r1
 exact wpAny_formatField_int hl ⟨.str _,H1,I1.tok _,⟨_,rfl⟩,q⟩
theorem uO:∀ {bs:List Bool}{its:List Value},Vals (bs.map V.bl) its->its=bs.map Value.bool
 |[],_,r=>by rw[List.map_nil] at r;cases r;rfl
 |b::bs,_,r=>by
   rw[List.map_cons] at r
   cases r with
   |cons r1 r2=>cases r1;rw[uO r2];rfl
def eqB(b:Bool):Value->Bool
 |.bool c=>c==b
 |_=>false
theorem uY(b:Bool):∀bs:List Bool,(bs.map Value.bool).countP (eqB b)=bs.countP (·== b)
 |[]=>rfl
 |c::bs=>by rw[List.map_cons,List.countP_cons,List.countP_cons,uY b bs];rfl
theorem Ep:MtM X "list.count" (fun x vs H Q=>∃(l:Addr) (bs:List Bool) (b:Bool),x=.ref l∧vs=[.bl b]∧H l=some (.lst (bs.map V.bl))∧Q (.int (bs.countP (·== b):Nat)) H):=by
 intro pins s σ H x vs v us Q I rx rv h
 obtain⟨l,bs,b,rfl,rfl,hH,q⟩:=h
 cases rx
 obtain⟨u,rfl,ru⟩:=rv.one
 cases ru
 obtain⟨z,its,n,r,hl,e⟩:=I.lstM hH
 have ei:=uO r
 subst ei
 refine call_meets F.slot_list_count ⟨_,e,rfl⟩ F.entry_list_count (F.args_list_count_2 _ _) (PySem.SeqAt.list_countAt l (bs.map Value.bool).toArray n none #[] (.bool b) (eqB b)) ⟨e,fun y hy=>?_,?_⟩
 ·have hy':y∈bs.map Value.bool:=by simpa using hy
  obtain⟨c,_,rfl⟩:=List.mem_map.mp hy'
  exact PySem.SeqAt.EqAt.bool_bool c b
 ·refine⟨.int _,H,I.tok _,⟨s.toks,?_⟩,q⟩
  show Value.int (((bs.map Value.bool).toArray.toList.countP (eqB b):Nat):Int) _=_
  rw[show (bs.map Value.bool).toArray.toList=bs.map Value.bool from rfl,uY]
theorem Er:MtM X "list.index" (fun x vs H Q=>∃(l:Addr) (bs:List Bool) (b:Bool) (j:Nat),x=.ref l∧vs=[.bl b]∧H l=some (.lst (bs.map V.bl))∧bs[j]?=some b∧(∀m c,m<j->bs[m]?=some c->(c==b)=false)∧j<1000∧Q (.int (j:Nat)) H):=by
 intro pins s σ H x vs v us Q I rx rv h
 obtain⟨l,bs,b,j,rfl,rfl,hH,hj,hno,h1,q⟩:=h
 cases rx
 obtain⟨u,rfl,ru⟩:=rv.one
 cases ru
 obtain⟨z,its,n,r,hl,e⟩:=I.lstM hH
 have ei:=uO r
 subst ei
 obtain⟨lt,ej⟩:=List.getElem?_eq_some_iff.mp hj
 have lt':j<(bs.map Value.bool).toArray.size:=by simpa using lt
 refine call_meets F.slot_list_index ⟨_,e,rfl⟩ F.entry_list_index (F.args_list_index_2 _ _) (PySem.SeqAt.list_indexAt l (bs.map Value.bool).toArray n none #[] (.bool b) (eqB b) j lt' (by lia) ?_ ?_) ⟨e,fun y hy=>?_,?_⟩
 ·simp[eqB,ej]
 ·intro m hm lm
  have hm':m<bs.length:=by simpa using hm
  have:=hno m bs[m] lm (List.getElem?_eq_getElem hm')
  simpa[eqB] using this
 ·have hy':y∈bs.map Value.bool:=by simpa using hy
  obtain⟨c,_,rfl⟩:=List.mem_map.mp hy'
  exact PySem.SeqAt.EqAt.bool_bool c b
 ·exact⟨.int _,H,I.tok _,⟨_,rfl⟩,q⟩
theorem Ln(h:X.mg x=some (.int i t))(hg:Gl X x:=by rfl)(hd:(x==("__debug__":Str))=false:=by decide):PE X (.Name x pos) (tC (.int i)):=pe_glob hg h ⟨t,rfl⟩ hd
end
structure MethAt(K:PySem.W.Frag)(C:Addr)(x qual:Str)(st:Stmt):Prop where
 ex:∃f fd,Fun K x qual st f fd∧PySem.W.findIn K (.ref C) x=some (some (.ref f))∧PySem.W.isFn K (.ref f)=true
structure MethC(P:Program)(w:World)(K:PySem.W.Frag)(mg:Str->Option Value)(base:Heap)(k:Nat)(C:Addr)(x:Str)(ps:List Str)(sp:Sp):Prop where
 ex:∃f fd,FnOk P w K mg base (bM P w) k f fd ps sp∧Binds K fd ps []∧PySem.W.keepIn K (.ref f)=true∧PySem.W.findIn K (.ref C) x=some (some (.ref f))∧PySem.W.isFn K (.ref f)=true
theorem Cd{K:PySem.W.Frag}{C:Addr}{x qual:Str}{st:Stmt}{f:Addr}{oc:Value}{od an:Option Addr}{osl:Array (Option Value)}{kV doc pm cdv ct:Value}
  (a:PySem.W.findIn K (.ref C) x=some (some (.ref f))) (n:PySem.W.isFn K (.ref f)=true) (l:K.lookup f=some ⟨oc,od,.func (PySem.W.fnOf x qual (defArgs st) (defBody st) (defScope st) .none kV doc pm an cdv ct),osl⟩) (c:PySem.W.codeIn K cdv qual=true) (k:PySem.W.keepIn K (.ref f)=true):MethAt K C x qual st:=
 ⟨f,_,fun_mk l c k,a,n⟩
section
variable{P:Program}{w:World}{K:PySem.W.Frag}{mg:Str->Option Value}{base:Heap}{k:Nat}{C:Addr}{x qual:Str}{N ps:List Str}{sp:Sp}{st:Stmt}
theorem Nf (F:Fun K x qual st f fd) (S:FnScope N ps (defScope st)) (len:∀ vs H Q E,sp vs H Q E->vs.length=ps.length)
  (hbody:∀(cdv:Value) (A:Around) (outer:List Env) (s:Shared) (H:Hp) (vs:List V) (Q:VK) (E:XK),Room k (A.deeper (envOfC qual (defScope st) s.heap.objs.size f cdv))->sp vs H Q E->
    ∃t,PSs (bO P w K mg base N qual (defScope st) f cdv A outer s H E) (defBody st) t∧t { nx:=fun _ H'=>Q .non H',rt:=Q } (start N vs) H):FnOk P w K mg base (bM P w) (k+1) f fd ps sp:=by
 obtain⟨oc,od,kV,doc,pm,an,cdv,ct,osl,rfl,l,c⟩:=F.ex
 exact fn_of l c S len (hbody cdv)
end
section
variable{X:Cx}{j k:Nat}{C:Addr}{ps:List Str}{sp:Sp}{x:Str}{p pos:Pos}{e:Expr}{es:List Expr}{t:TA}{E:XK}
theorem Ey(D:MethC X.prog X.w X.K X.mg X.base j C "__init__" ps sp)(mk:PySem.W.makesIn X.K C=true)(kc:PySem.W.keepIn X.K (.ref C)=true)(hm:X.mg x=some (.ref C))(hr:Room k X.A)(hx:Passes (bM X.prog X.w) X E)(ha:QA X (e::es) t)(hjk:j+1≤k:=by decide)(hg:Gl X x:=by rfl)(hdb:(x==("__debug__":Str))=false:=by decide)
  (he:notStar e=true:=by rfl) (hpl:(backTo pos (starEach es X.env)).any (·.1)=false:=by rfl) :
  PE X (.Call (.Name x p) (e::es) [] pos) (tMake C sp [] E t):=by
 obtain⟨f,fd,F,b,kp,a,n⟩:=D.ex
 exact pe_make ⟨mk,a,n,kc⟩ F (hr.mono hjk) hg hm b .nil hx ha.h hdb (bF he) hpl
end
open PySem PySem.Spec PyProof.Rows
section
variable{X:Cx}{CX:CXT}{k:Nat}{f C:Addr}{fd:FuncData}{ps:List Str}{sp:Sp}{E:XK}
theorem yX (F:FnOk X.prog X.w X.K X.mg X.base CX k f fd ps sp) (hr:Room k X.A.in1) (hb:Binds X.K fd ps []) (hx:Passes CX X E)
  (I:Inv X pins σ H s) (r:Vals vs us) (h:sp vs H Q E):wpAny (model X.prog X.w) X.A.in1 (call (.ref f) us) (EP X pins σ Q) X.xe s:=by
 have hl:(us++[]).length=ps.length:=by rw[List.append_nil,←r.length];exact F.len _ _ _ _ h
 have hl':us.length=ps.length:=by rw[List.append_nil] at hl;exact hl
 have bb:=hb s us I.kIn hl
 rw[List.append_nil] at bb
 refine wpAny_call (codeAny_mono (F.run X.A.in1 X.stack s H ⟨us,[]⟩ us vs Q E hr ⟨(show X.A.in1.frames=some X.stack from I.ok.frames),I.ok.mod,I.bs,Nat.le_trans I.ok.bsz I.sz,I.stack,I.stkFree,I.hok,I.bare⟩ bb r h) fun r s' hq=>?_)
 cases r with
 |error e=>exact hx pins σ H s e s' I hq
 |ok fl=>
   cases fl with
   |ret u=>exact I.after hq
   |next=>exact False.elim hq
   |brk=>exact False.elim hq
   |cont=>exact False.elim hq
theorem uV(D:MethC X.prog X.w X.K X.mg X.base j C "__len__" ps sp)(hr:Room (j+1) X.A)(hx:Passes (bM X.prog X.w) X E) :
  CallR X (.builtin "len") (fun vs H Q=>∃x dx fs,vs=[.ref x]∧H x=some (.ins C dx fs)∧sp [.ref x] H (fun v H2=>∃n:Int,v=.int n∧(0≤n∧n<2^63)∧Q (.int n) H2) E):=by
 intro pins s σ H vs us Q I r h
 obtain⟨x,dx,fs,rfl,hx',q⟩:=h
 obtain⟨f,fd,F,b,kp,a,n⟩:=D.ex
 obtain⟨u,rfl,ru⟩:=vals1 r
 cases ru
 obtain⟨mA,O,_⟩:=ins_get I.hok hx'
 obtain⟨od,IA,_⟩:=O.look
 refine Calls.call_function_entry PySem.kind_len PySem.plain_len PySem.entry_len (PySem.args_len1 _) ?_
 unfold Builtin.«len»
 refine wpAny_bind (m:=oneArg "len" _) (wpAny_pure ?_)
 refine wpAny_bind (m:=callSpecial? (.ref x) (Str.ofString "__len__")) (PySem.W.special_fn I.kIn IA a (beq_iff_eq.mp n) (wpAny_mono (yX (vs:=[.ref x]) F hr.in1 b hx I (.cons rfl .nil) q) (fun w' s' hw=>?_) fun _ _ y=>y))
 obtain⟨v,H2,I2,rv,m,rfl,⟨h0,h1⟩,qq⟩:=hw
 obtain⟨t,rfl⟩:=rv
 refine wpAny_bind (wpAny_holding (wpAny_pure ?_))
 refine wpAny_bind (wpAny_letGo ?_)
 show wpAny _ _ (if m<0 then _ else _) _ _ _
 rw[if_neg (by lia)]
 show wpAny _ _ (if m ≥ 2^63 then _ else _) _ _ _
 rw[if_neg (by lia)]
 exact wpAny_bind (wpAny_mkInt (wpAny_pure ⟨_,rfl,.int m,H2,I2.tok _,⟨_,rfl⟩,qq⟩))
end
theorem cB:∀ (names:List (Str×NameKind)) (n:Nat) (acc:List (Str×Addr)),cellsFrom n names acc=cellsFrom n names []++acc
 |[],_,_=>rfl
 |(name,kind)::r,n,acc=>by
   unfold cellsFrom
   split
   ·rw[cB r (n+1) ((name,n)::acc),cB r (n+1) [(name,n)],List.append_assoc];rfl
   ·exact cB r n acc
theorem Ci
  (hQ:Q (newEnv scope s.heap.objs.size globals (cellsFrom (s.heap.objs.size+1) scope.names cl) qual none .none (some env) builtinsNs) { s with heap:=pushCells (s.heap.push { cls:=.type "dict",data:=.dict #[] }) scope.names }) :
  wpAny M A (newFunctionEnv scope globals cl [] qual none .none (some env)) Q E s:=by
 simp only[newFunctionEnv,Option.isSome_some,if_true]
 refine wpAny_bind (wpAny_alloc ?_)
 refine wpAny_bind (wpAny_layCells _ (fun name kind cells=>by cases hkc:kind==NameKind.cell<;>simp[hkc]) _ _ _ _ ?_)
 rw[show ({ s with heap:=s.heap.push { cls:=.type "dict",data:=.dict #[] } }:Shared).heap.objs.size=s.heap.objs.size+1 from Heap.size_push ..]
 refine wpAny_bind ?_
 rw[List.forIn_nil]
 exact wpAny_pure (wpAny_pure hQ)
abbrev Cx.bB(X:Cx)(pins:List (Addr×Obj))(scope:Scope)(cs:List (Str×Addr))(Nc:List Str)(fp:List Addr)(C:Addr)(s₂:Shared)(H₂:Hp):Cx where
 prog:=X.prog
 w:=X.w
 K:=X.K
 mg:=X.mg
 base:=X.base
 A:=X.A
 N:=Nc
 s₀:=s₂
 H₀:=H₂
 env:=compEnvC scope cs C X.env
 outer:=X.stack
 stack:=X.stack
 ex:=fp
 fn:=fun y=>scope.names.lookup y==some .cell
 calm:=X.calm
 pn:=X.pn++pins
 xe:=fun _ _=>False
structure CompG(X:Cx)(scope:Scope)(cl:List (Str×Addr))(own:List Str)(js:List Nat)(fr:List Str):Prop where
 kind:scope.kind=.function
 names:∀y∈scope.names,y.2=.local->scope.names.lookup y.1=some .local
 clos:closureFor scope X.env=pure cl
 sub:∀y c,cl.lookup y=some c->X.env.cells.lookup y=some c
 has:∀(m:Nat) y,((relabel scope X.env).names.lookup y=some .cell∨(relabel scope X.env).names.lookup y=some .free)->∃c,(cellsFrom m scope.names cl).lookup y=some c
 nd:(own++fr).Nodup
 len:js.length=fr.length
 newc:∀(m:Nat) y c,(cellsFrom m scope.names []).lookup y=some c->scope.names.lookup y=some .cell
 oldc:∀y c,cl.lookup y=some c->scope.names.lookup y≠some .cell
 fre:∀(k j:Nat) (y:Str),js[k]?=some j->fr[k]?=some y->X.N[j]?=some y∧(X.env.scope.names.lookup y=some .cell∨X.env.scope.names.lookup y=some .free)∧((relabel scope X.env).names.lookup y=some .cell∨(relabel scope X.env).names.lookup y=some .free)∧∃c,cl.lookup y=some c
theorem mj:∀ {l m:List (Str×α)},(l++m).lookup y=some c->l.lookup y=some c∨(l.lookup y=none∧m.lookup y=some c)
 |[],_,h=>.inr ⟨rfl,h⟩
 |(k,v)::r,m,h=>by
   rw[List.cons_append,List.lookup_cons] at h
   rw[List.lookup_cons]
   split at h
   ·exact .inl h
   ·exact mj h
theorem jE:∀ {l m:List (Str×α)},l.lookup y=none->(l++m).lookup y=m.lookup y
 |[],_,_=>rfl
 |(k,v)::r,m,h=>by
   rw[List.lookup_cons] at h
   rw[List.cons_append,List.lookup_cons]
   split at h
   ·cases h
   ·exact jE h
section
variable{X:Cx}{pins:List (Addr×Obj)}{σ:St}{H:Hp}{s:Shared}{scope:Scope}{cl:List (Str×Addr)}{own:List Str}{js:List Nat}{fr:List Str}{fp:List Addr}{C m:Addr}
theorem DX {hh:Heap} (T:CompG X scope cl own js fr) (I:Inv X pins σ H s) (f:∀ b∈fp,FpOk X pins H b) (hlt:∀ b∈fp,b<s.heap.objs.size) (hC:s.heap.objs.size≤C) (hm:m=hh.objs.size) (hms:s.heap.objs.size≤m) :
  (X.bB pins scope (cellsFrom m scope.names cl) (own++fr) fp C s H).Ok:=by
 have ok:CellsOk (pushCells hh scope.names) m (cellsFrom m scope.names []):=by
  have:=cellsFrom_ok scope.names hh m [] ⟨fun _ _ hm=>(nomatch hm),List.Pairwise.nil⟩ (by rw[hm];exact Nat.le_refl _)
  rw[←hm] at this;exact this
 have hold:∀y c,cl.lookup y=some c->c<s.heap.objs.size:=fun y c e=>by
  obtain⟨v,q⟩:=I.cell y c (T.sub _ _ e)
  exact q.lt
 have spl:∀y c,(cellsFrom m scope.names cl).lookup y=some c->(m≤c∧(cellsFrom m scope.names []).lookup y=some c)∨(cl.lookup y=some c∧c<s.heap.objs.size):=fun y c e=>by
  rw[cB] at e
  rcases mj e with z | ⟨_,z⟩
  ·exact .inl ⟨(ok.empty _ _ (PySem.mem_of_lookup z)).2,z⟩
  ·exact .inr ⟨z,hold _ _ z⟩
 refine⟨I.ok.mod,T.kind,I.ok.glob,I.ok.blt,hC,fun y z c h1 h2=>?_,fun y h=>T.has m y h,fun y c h1 h2=>?_,I.ok.hd,I.ok.frames,.inl rfl,fun b hb=>⟨Nat.ne_of_lt (Nat.lt_of_lt_of_le (hlt b hb) hC),fun y c h=>?_⟩,fun b o e=>I.bs b o e,Nat.le_trans I.ok.bsz I.sz,fun b o e hb=>?_,fun b hb hm'=>?_,I.stack,I.stkFree⟩
 ·rcases spl _ _ h1 with ⟨a1,a2⟩ | ⟨a1,a2⟩
  ·rcases spl _ _ h2 with ⟨b1,b2⟩ | ⟨b1,b2⟩
   ·exact name_of_addr ok.apart (PySem.mem_of_lookup a2) (PySem.mem_of_lookup b2)
   ·exact absurd (Nat.lt_of_lt_of_le b2 hms) (Nat.not_lt.mpr a1)
  ·rcases spl _ _ h2 with ⟨b1,b2⟩ | ⟨b1,b2⟩
   ·exact absurd (Nat.lt_of_lt_of_le a2 hms) (Nat.not_lt.mpr b1)
   ·exact I.ok.inj y z c (T.sub _ _ a1) (T.sub _ _ b1)
 ·rcases spl _ _ h2 with ⟨a1,a2⟩ | ⟨a1,a2⟩
  ·exact Nat.le_trans hms a1
  ·exact absurd (by simpa using h1) (T.oldc _ _ a1)
 ·rcases spl _ _ h with ⟨a1,a2⟩ | ⟨a1,a2⟩
  ·exact fun z=>absurd (Nat.lt_of_lt_of_le (hlt b hb) hms) (Nat.not_lt.mpr (z ▸ a1))
  ·exact (f b hb).2.2.2.2.1 y c (T.sub _ _ a1)
 ·rcases (f b hb).2.2.2.1 with z | z
  ·exact I.ok.noex b o e z
  ·exact absurd (Nat.lt_of_lt_of_le (Heap.lt_size e) I.ok.bsz) (Nat.not_lt.mpr z)
 ·rcases List.mem_cons.mp (I.stkSub b hm') with z | z
  ·exact (f b hb).2.1 z
  ·exact (f b hb).2.2.1 z
theorem zF (T:CompG X scope cl own js fr) (I:Inv X pins σ H s) (f:∀ b∈fp,FpOk X pins H b) (hlt:∀ b∈fp,b<s.heap.objs.size)
  (k:∀b o,s.heap.get? b=some o->h'.get? b=some o) (ha:s.heap.objs.size≤acc) (hC:s.heap.objs.size≤C) (hne:C≠acc) (hm:m=hh.objs.size) (hms:s.heap.objs.size≤m) (hCm:C<m) (ham:acc<m) (hh':h'=pushCells hh scope.names) (ob:ObjOk X.prog X.w (upd H acc ho) h' acc ho) (ns:h'.Ns C mm) :
  Inv (X.bB pins scope (cellsFrom m scope.names cl) (own++fr) fp C s H) [] (List.replicate own.length none++pick js σ) (upd H acc ho) { s with heap:=h',toks:=t' }:=by
 have ok:CellsOk (pushCells hh scope.names) m (cellsFrom m scope.names []):=by
  have:=cellsFrom_ok scope.names hh m [] ⟨fun _ _ hm=>(nomatch hm),List.Pairwise.nil⟩ (by rw[hm];exact Nat.le_refl _)
  rw[←hm] at this;exact this
 have hold:∀y c,cl.lookup y=some c->c<s.heap.objs.size:=fun y c e=>by
  obtain⟨v,q⟩:=I.cell y c (T.sub _ _ e)
  exact q.lt
 have spl:∀y c,(cellsFrom m scope.names cl).lookup y=some c->(m≤c∧h'.IsCell c none)∨(cl.lookup y=some c∧c<s.heap.objs.size):=fun y c e=>by
  rw[cB] at e
  rcases mj e with z | ⟨_,z⟩
  ·have:=ok.empty _ _ (PySem.mem_of_lookup z)
   exact .inl ⟨this.2,by rw[hh'];exact this.1⟩
  ·exact .inr ⟨z,hold _ _ z⟩
 have hn:H acc=none:=I.hok.fresh ha
 have fC:H C=none:=I.hok.fresh hC
 refine⟨DX T I f hlt hC hm hms,rfl,I.bare,Un.laid k ha hn,⟨mm,ns,fun i y v h1 h2 h3=>?_⟩,fun y c e=>?_,by show upd H acc _ C=none;rw[upd_ne hne];exact fC,fun y c e=>?_,fun p hp=>?_,I.hok.laid k ha ob,?_⟩
 ·have h1:(own++fr)[i]?=some y:=h1
  by_cases hi:i<own.length
  ·rw[List.getElem?_append_left (by rw[List.length_replicate];exact hi),List.getElem?_replicate] at h2
   split at h2<;>cases h2
  ·rw [List.getElem?_append_right (by lia)] at h1
   rw[List.getElem?_append_right (by rw[List.length_replicate];lia),List.length_replicate] at h2
   unfold pick at h2
   rw[List.getElem?_map] at h2
   cases hj:js[i-own.length]? with
   |none=>rw[hj] at h2;cases h2
   | some j=>
     rw[hj] at h2
     have h2s:(σ[j]?).getD none=some v:=Option.some.inj h2
     have h2'':σ[j]?=some (some v):=by
      cases z:σ[j]? with
      |none=>rw[z] at h2s;cases h2s
      |some w=>rw[z] at h2s;exact congrArg some h2s
     obtain⟨g1,g2,g3,c,gc⟩:=T.fre _ j y hj h1
     obtain⟨mX,_,hl⟩:=I.loc
     have vis:Vis X.env.scope y:=g2.elim (fun z=>.inr (.inl z)) fun z=>.inr (.inr z)
     obtain⟨u,r,q⟩:=hl j y v g1 h2'' vis
     refine⟨u,r,.inr ⟨g3,c,?_,?_⟩⟩
     ·show (cellsFrom m scope.names cl).lookup y=some c
      rw[cB]
      cases z:(cellsFrom m scope.names []).lookup y with
      |none=>rw[jE z];exact gc
      |some c'=>exact absurd (T.newc m y c' z) (T.oldc y c gc)
     ·have hc':=T.sub _ _ gc
      rcases q with ⟨q,_⟩ | ⟨_,c2,e2,z⟩
      ·have q:X.env.scope.names.lookup y=some .local:=q
       rcases g2 with g2 | g2<;>(rw[g2] at q;cases q)
      ·rw[hc'] at e2;cases e2
       exact z.keeps k
 ·rcases spl y c e with ⟨_,z⟩ | ⟨z,_⟩
  ·exact⟨_,z⟩
  ·obtain⟨v,q⟩:=I.cell y c (T.sub _ _ z)
   exact⟨v,q.keeps k⟩
 ·rcases spl y c e with ⟨z,_⟩ | ⟨z,lt⟩
  ·show upd H acc _ c=none
   rw[upd_ne (fun (q:c=acc)=>absurd ham (Nat.not_lt.mpr (q ▸ z)))]
   exact I.hok.fresh (Nat.le_trans hms z)
  ·show upd H acc _ c=none
   rw[upd_ne (fun (q:c=acc)=>absurd lt (Nat.not_lt.mpr (q ▸ ha)))]
   exact I.freeC y c (T.sub _ _ z)
 ·have hp':p∈X.pn++pins:=by simpa using hp
  obtain⟨e,n,ne,nf,d⟩:=I.pin p hp'
  refine⟨k _ _ e,?_,Nat.ne_of_lt (Nat.lt_of_lt_of_le (Heap.lt_size e) hC),fun hm=>?_,d⟩
  ·show upd H acc _ p.1=none
   rw[upd_ne (fun z=>absurd (Heap.lt_size e) (by rw[z];exact Nat.not_lt.mpr ha))]
   exact n
  ·rcases List.mem_cons.mp (I.stkSub _ hm) with z | z
   ·exact ne z
   ·exact nf z
 ·show (List.replicate own.length none++pick js σ).length=(own++fr).length
  unfold pick
  rw[List.length_append,List.length_replicate,List.length_map,List.length_append,T.len]
end
section
variable{prog:Program}{w:World}{A:Around}{R:Result->Shared->Prop}{s:Shared}
def uM(ifs:List Expr)(env:Env):Sem Bool:=forIn ifs true fun c r=>if r=true then do let ok ←isTrue c env (eval c env);pure (ForInStep.yield ok) else pure (ForInStep.yield r)
def turnOf (g:Comprehension) (bodyK:Sem Fin->Sem Fin) (c:Code) (it:Value) (env:Env):Sem Fin:=do
 standAt g.iter.pos
 match ←pyNext it with
 |none=>pure (.done .next)
 |some v=>
   letOwnedTupleGo g.target it v
   assign g.target env v
   let ok ←uM g.ifs env
   if ok then bodyK (again c) else again c
def su(elt:Expr)(acc:Value)(env:Env)(k:Sem Fin):Sem Fin:=do
 (do let _ ←call (.builtin "list.append") [acc,←eval elt env])
 k
theorem Gp(elt target iter:Expr)(ifs:List Expr)(scope:Scope)(pos:Pos)(it acc:Value)(env:Env) :
  compTurn (.ListComp elt [⟨target,iter,ifs,0⟩] scope pos) 0 it acc env=turnOf ⟨target,iter,ifs,0⟩ (su elt acc env) (.compLoop (.ListComp elt [⟨target,iter,ifs,0⟩] scope pos) 0 it acc env) it env:=rfl
def lN(prog:Program)(w:World)(A:Around)(bodyK:Sem Fin->Sem Fin)(W:(Shared->Prop)->Shared->Prop):Prop:=
 ∀(k:Sem Fin) (Q:Fin->Shared->Prop) (E:Value->Shared->Prop) (s:Shared),W (fun s'=>wpAny (model prog w) A k Q E s') s->wpAny (model prog w) A (bodyK k) Q E s
theorem Bt:lN prog w A (su elt acc env) (fun P s=>wpAny (model prog w) A (eval elt env) (fun x s1=>wpAny (model prog w) A (call (.builtin "list.append") [acc,x]) (fun _ s2=>P s2) (fun _ _=>False) s1) (fun _ _=>False) s):=by
 intro k Q E s h
 unfold su
 exact wpAny_bind (wpAny_bind (wpAny_mono h (fun x s1 h1=>wpAny_bind (wpAny_mono h1 (fun _ s2 h2=>wpAny_pure h2) fun _ _ z=>z.elim)) fun _ _ z=>z.elim))
def Az(e:Expr):Prop:=(∃a b c d,e=.ListComp a b c d)∨∃a b c d,e=.SetComp a b c d
theorem Em (I:Nat->Shared->Prop)
  (hturn:compTurn e depth it acc env=turnOf g bodyK (.compLoop e depth it acc env) it env) (hW:lN prog w A bodyK W)
  (turn:∀ n s,I n s->wpAny (model prog w) A (pyNext it) (fun r s₁=>match r with
    |none=>R (.ok .next) s₁
    |some v=>wpAny (model prog w) A (letOwnedTupleGo g.target it v) (fun _ s₂=>wpAny (model prog w) A (assign g.target env v) (fun _ s₃=>
      wpAny (model prog w) A (uM g.ifs env) (fun ok s₄=>if ok=true then W (fun s₅=>∃m,m<n∧I m s₅) s₄ else ∃m,m<n∧I m s₄) (fun _ _=>False) s₃) (fun _ _=>False) s₂) (fun _ _=>False) s₁) (fun _ _=>False) s)
  (hmono:∀P P' s,(∀s,P s->P' s)->W P s->W P' s)
  (n:Nat) (h:I n s) (he:Az e):codeAny (model prog w) A (.compLoop e depth it acc env) R s:=by
 refine codeAny_loop (by rcases he with ⟨_,_,_,_,rfl⟩ | ⟨_,_,_,_,rfl⟩<;>rfl) I (fun n s hI=>?_) n h
 suffices q:wpAny (model prog w) A ((compTurn e depth it acc env).onRaise (fun x=>do noteFrame x env;theTreesLotGoes x)) (fun fin s'=>match fin with
   |.done f=>R (.ok f) s'
   |.again c'=>c'=Code.compLoop e depth it acc env∧∃m,m<n∧I m s') (fun e s'=>R (.error e) s') s by
  rcases he with ⟨_,_,_,_,rfl⟩ | ⟨_,_,_,_,rfl⟩<;>exact q
 refine wpAny_noted ?_
 rw[hturn]
 unfold turnOf
 refine wpAny_bind (wpAny_standAt (wpAny_bind (wpAny_mono (turn n s hI) (fun r s₁ h₁=>?_) fun _ _ h'=>h'.elim)))
 cases r with
 |none=>exact wpAny_pure h₁
 | some v=>
   refine wpAny_bind (wpAny_mono h₁ (fun _ s₂ h₂=>wpAny_bind (wpAny_mono h₂ (fun _ s₃ h₃=>wpAny_bind (wpAny_mono h₃ (fun ok s₄ h₄=>?_) fun _ _ h'=>h'.elim)) fun _ _ h'=>h'.elim)) fun _ _ h'=>h'.elim)
   cases ok with
   |false=>
     have h₄:∃m,m<n∧I m s₄:=h₄
     exact wpAny_pure ⟨rfl,h₄⟩
   |true=>
     have h₄:W (fun s₅=>∃m,m<n∧I m s₅) s₄:=h₄
     exact hW _ _ _ _ (hmono _ _ _ (fun s₅ h₅=>wpAny_pure ⟨rfl,h₅⟩) h₄)
theorem CZ (hg:(clausesOf e)[depth]?=some g) (ha:g.is_async=0)
  (h0:codeAny (model prog w) A (.compLoop e depth it acc env) R s)
  (h:wpAny (model prog w) A (pyIter it) (fun it' s'=>codeAny (model prog w) A (.compLoop e depth it' acc env) R s') (fun _ _=>False) s) (he:Az e) :
  codeAny (model prog w) A (.compStart e depth it acc env) R s:=by
 refine codeAny_of_tree ?_
 suffices q:wpAny (model prog w) A ((compStart e depth it acc env).onRaise (fun x=>do noteFrame x env;standAt theWindowsPlace)) (fun fin s'=>match fin with
   |.done f=>R (.ok f) s'
   |.again c'=>c'.quiet=true∧codeAny (model prog w) A c' R s') (fun e s'=>R (.error e) s') s by
  rcases he with ⟨_,_,_,_,rfl⟩ | ⟨_,_,_,_,rfl⟩<;>exact q
 refine wpAny_notedAt ?_
 unfold compStart
 have e1:(((clausesOf e)[depth]?).elim false (·.is_async != 0))=false:=by
  rw[hg]
  show (g.is_async != 0)=false
  rw[ha];rfl
 rw[e1]
 simp only[Bool.false_eq_true,if_false,pure_bind]
 refine wpAny_bind (wpAny_askSetting (wpAny_ite ?_))
 split
 ·first
   |exact wpAny_bind (wpAny_pure (wpAny_pure (And.intro rfl h0)))
   |exact wpAny_pure (And.intro rfl h0)
 ·refine wpAny_bind (wpAny_rule ?_)
  rw[hg]
  exact wpAny_bind (wpAny_standAt (wpAny_bind (wpAny_mono h (fun it' s' h'=>wpAny_pure (And.intro rfl h')) fun _ _ x=>x.elim)))
end
section
variable{prog:Program}{w:World}{A:Around}{E:Value->Shared->Prop}{s:Shared}
theorem zQ(hi:IsTupIter s.heap ia t k)(ht:IsTup s.heap t its)(hy:its[k]?=some y)
  (hQ:∀h',IsTupIter h' ia t (k+1)->Heap.SameBut ia s.heap h'->Q y { s with heap:=h' }):wpAny (model prog w) A (Builtin.SmallTypes.nextOf (.ref ia)) Q E s:=by
 obtain⟨oi,hoi,hci,hdi⟩:=id hi
 obtain⟨ot,hot,_,nt,hdt⟩:=ht
 unfold Builtin.SmallTypes.nextOf
 refine wpAny_bind (wpAny_callSpecial?_slot (name:=Str.ofString "__next__") hi.typeIs slot_tupleiter_next (wpAny_call_entry slot_tupleiter_next hi.typeIs entry_tupleiter_next ?_ (args_tupleiter_next _)))
 show wpAny _ _ (field (.ref ia) 0>>=_) _ _ s
 refine wpAny_bind (wpAny_field hoi hdi (x:=.ref t) rfl ?_)
 show wpAny _ _ (if (Value.ref t==Value.none)=true then _ else _) _ _ s
 rw[if_neg (fun z:(Value.ref t==Value.none)=true=>Bool.false_ne_true z)]
 show wpAny _ _ (field (.ref ia) 1>>=_) _ _ s
 refine wpAny_bind (wpAny_field hoi hdi (x:=.int k 0) rfl ?_)
 show wpAny _ _ (seqItems? (.ref t)>>=_) _ _ s
 refine wpAny_bind (wpAny_seqItems hot hdt ?_)
 simp only[Int.toNat_natCast,hy]
 refine wpAny_bind (wpAny_setField hoi hdi (by simp) (wpAny_pure ⟨y,rfl,wpAny_pure (hQ _ ⟨_,Heap.get?_update_self _ hoi (Obj.isFreed_of_fields (Obj.data_mapFields hdi _)),(Obj.cls_mapFields ..).trans hci,?_⟩ (Heap.SameBut.update ..))⟩))
 rw[Obj.data_mapFields hdi];simp[rawInt]
theorem yq(hh:A.handled=none)(hi:IsTupIter s.heap ia t k)(ht:IsTup s.heap t its)(hy:its[k]?=none)
  (hE:∀h' e,Heap.ExtBut ia s.heap h'->(∃o,h'.get? e=some o∧o.cls=.type "StopIteration")->E (.ref e) { s with heap:=h' }):wpAny (model prog w) A (Builtin.SmallTypes.nextOf (.ref ia)) Q E s:=by
 obtain⟨oi,hoi,hci,hdi⟩:=id hi
 obtain⟨ot,hot,_,nt,hdt⟩:=ht
 unfold Builtin.SmallTypes.nextOf
 refine wpAny_bind (wpAny_callSpecial?_slot (name:=Str.ofString "__next__") hi.typeIs slot_tupleiter_next (wpAny_call_entry slot_tupleiter_next hi.typeIs entry_tupleiter_next ?_ (args_tupleiter_next _)))
 show wpAny _ _ (field (.ref ia) 0>>=_) _ _ s
 refine wpAny_bind (wpAny_field hoi hdi (x:=.ref t) rfl ?_)
 show wpAny _ _ (if (Value.ref t==Value.none)=true then _ else _) _ _ s
 rw[if_neg (fun z:(Value.ref t==Value.none)=true=>Bool.false_ne_true z)]
 show wpAny _ _ (field (.ref ia) 1>>=_) _ _ s
 refine wpAny_bind (wpAny_field hoi hdi (x:=.int k 0) rfl ?_)
 show wpAny _ _ (seqItems? (.ref t)>>=_) _ _ s
 refine wpAny_bind (wpAny_seqItems hot hdt ?_)
 simp only[Int.toNat_natCast,hy]
 refine wpAny_bind (wpAny_rule (wpAny_bind (wpAny_setField hoi hdi (by simp) ?_)))
 show wpAny _ _ (newExc (.type "StopIteration") ([]:List Value)>>=fun _=>_) _ _ _
 refine wpAny_bind ?_
 simp only[newExc,newTuple]
 refine wpAny_bind (wpAny_newObj_type ?_ (by size_fits:_))
 refine wpAny_bind (m:=firstArgMember _ _) (wpAny_of_eq (a:=Value.none) (by first | rfl | simp only[firstArgMember]) ?_)
 refine wpAny_newObj_type ?_ (by size_fits:_)
 simp only[raiseNew]
 refine wpAny_bind (wpAny_handled ?_)
 first | rw[hh] | rw[show A.in1.handled=none from hh]
 refine wpAny_bind (wpAny_pure (wpAny_throw (hE _ _ (((Heap.SameBut.update ..).extBut.push _).push _) ⟨_,Heap.get?_push_size _ rfl,rfl⟩)))
end
structure SubIt(P:Program)(w:World)(i l:Addr)(its:Array Value)(st:Nat->Heap->Prop):Prop where
 obj:∀k h,st k h->(∃o,h.get? i=some o∧∀v,o.data≠.cell v)∧∃o,h.get? l=some o
 keep:∀k h h',st k h->(∀o,h.get? i=some o->h'.get? i=some o)->(∀o,h.get? l=some o->h'.get? l=some o)->st k h'
 item:∀(A:Around) k (s:Shared) x (Q:Value->Shared->Prop) (E:Value->Shared->Prop),st k s.heap->its[k]?=some x->(∀h',st (k+1) h'->Heap.SameBut i s.heap h'->Q x { s with heap:=h' })->wpAny (model P w) A (Builtin.SmallTypes.nextOf (.ref i)) Q E s
 done:∀(A:Around) k (s:Shared) (Q:Value->Shared->Prop) (E:Value->Shared->Prop),A.handled=none->st k s.heap->its[k]?=none->(∀h' e,Heap.ExtBut i s.heap h'->(∃o,h'.get? e=some o∧o.cls=.type "StopIteration")->E (.ref e) { s with heap:=h' })->wpAny (model P w) A (Builtin.SmallTypes.nextOf (.ref i)) Q E s
theorem HQ(hne:l≠i)(its:Array Value):SubIt P w i l its (fun k h=>IsTupIter h i l k∧IsTup h l its) where
 obj:=fun k h ⟨⟨o,e,_,d⟩,⟨o',e',_⟩⟩=>⟨⟨o,e,fun v z=>by rw[d] at z;cases z⟩,o',e'⟩
 keep:=fun k h h' ⟨⟨o,e,r⟩,⟨o',e',r'⟩⟩ k1 k2=>⟨⟨o,k1 _ e,r⟩,⟨o',k2 _ e',r'⟩⟩
 item:=fun A k s x Q E st hx hQ=>zQ st.1 st.2 hx fun h' h1 h2=>hQ h' ⟨h1,st.2.extBut h2.extBut hne⟩ h2
 done:=fun A k s Q E hh st hx hE=>yq hh st.1 st.2 hx hE
theorem HN(hne:l≠i)(its:Array Value):SubIt P w i l its (fun k h=>h.IsListIter i l k∧h.IsList l its) where
 obj:=fun k h ⟨⟨o,e,_,d⟩,⟨o',e',_⟩⟩=>⟨⟨o,e,fun v z=>by rw[d] at z;cases z⟩,o',e'⟩
 keep:=fun k h h' ⟨⟨o,e,r⟩,⟨o',e',r'⟩⟩ k1 k2=>⟨⟨o,k1 _ e,r⟩,⟨o',k2 _ e',r'⟩⟩
 item:=fun A k s x Q E st hx hQ=>wpAny_nextOf_list_item st.1 st.2 hx fun h' h1 h2=>hQ h' ⟨h1,st.2.extBut h2.extBut hne⟩ h2
 done:=fun A k s Q E hh st hx hE=>wpAny_nextOf_list_end hh st.1 st.2 hx hE
section
variable{P:Program}{w:World}{A:Around}{E:Value->Shared->Prop}{s:Shared}{z TI TO i1 i2 l1 l2:Addr}{xs ys:Array Value}{st1 st2:Nat->Heap->Prop}
theorem Dn{k:Nat}{Q:Value->Shared->Prop}(D:ZipApart z TI TO i1 i2 l1 l2)(S1:SubIt P w i1 l1 xs st1)(S2:SubIt P w i2 l2 ys st2)
  (hz:IsZip s.heap z TI TO .none) (hTI:IsPair s.heap TI (.ref i1) (.ref i2)) (hTO:IsPair s.heap TO a b) (h1:st1 k s.heap) (h2:st2 k s.heap) (hx:xs[k]?=some x) (hy:ys[k]?=some y)
  (hQ:∀h',IsZip h' z TI TO (rawInt s.heap.objs.size)->IsPair h' TO x y->st1 (k+1) h'->st2 (k+1) h'->IsPair h' s.heap.objs.size x y->h'.objs.size=s.heap.objs.size+1->(∀c o,c≠z->c≠TO->c≠i1->c≠i2->s.heap.get? c=some o->h'.get? c=some o)->Q (.ref s.heap.objs.size) { s with heap:=h' }) :
  wpAny (model P w) A (Builtin.«zip.__next__» ⟨[.ref z],[]⟩) (fun fin s'=>∃v,fin=.done (.ret v)∧Q v s') E s:=by
 show wpAny _ _ (field (.ref z) 2>>=fun _=>_) _ _ _
 refine wpAny_bind (wpAny_field hz rfl (x:=.bool false) rfl (show _ from ?_))
 show wpAny _ _ (field (.ref z) 3>>=fun _=>_) _ _ _
 refine wpAny_bind (wpAny_field hz rfl (x:=.ref TI) rfl (show _ from ?_))
 refine wpAny_bind (wpAny_seqItems hTI rfl (show _ from ?_))
 show wpAny _ _ (Builtin.SmallTypes.ownedTupleIsFree (.ref z)>>=fun _=>_) _ _ _
 refine wpAny_bind ?_
 unfold Builtin.SmallTypes.ownedTupleIsFree
 refine wpAny_bind (wpAny_field hz rfl (x:=.none) rfl (wpAny_pure (show _ from ?_)))
 simp only[if_true]
 refine wpAny_bind (wpAny_rule (show _ from ?_))
 refine wpAny_bind (wpAny_field hz rfl (x:=.ref TO) rfl (show _ from ?_))
 refine wpAny_bind (wpAny_setField_rec hz (by simp) fun g1 hz1 e1=>?_)
 replace hz1:IsZip g1 z TI TO .ellipsis:=hz1
 have n1:=(S1.obj _ _ h1).2
 refine wpAny_bind ?_
 simp only[List.zipIdx_cons,List.zipIdx_nil,List.forIn_cons,List.forIn_nil]
 refine wpAny_bind (wpAny_bind (wpAny_onRaise (show _ from ?_)))
 show wpAny _ _ (Builtin.SmallTypes.nextOf (.ref i1)>>=fun _=>_) _ _ _
 refine wpAny_bind (S1.item _ k _ x _ _ (S1.keep _ _ _ h1 (fun o q=>e1.extBut _ _ D.i1z q) fun o q=>e1.extBut _ _ D.l1z q) hx fun g2 h12 e2=>wpAny_pure ?_)
 have hTO2:IsPair g2 TO a b:=e2.extBut _ _ D.TOi1 (e1.extBut _ _ D.TOz hTO)
 refine wpAny_bind (wpAny_seqItems hTO2 rfl (show _ from ?_))
 refine wpAny_bind (wpAny_updateSeq_pair hTO2 fun g3 hTO3 e3=>?_)
 replace hTO3:IsPair g3 TO x b:=hTO3
 refine wpAny_bind (wpAny_letGo (wpAny_pure (show _ from ?_)))
 refine wpAny_bind (wpAny_bind (wpAny_onRaise (show _ from ?_)))
 show wpAny _ _ (Builtin.SmallTypes.nextOf (.ref i2)>>=fun _=>_) _ _ _
 refine wpAny_bind (S2.item _ k _ y _ _ (S2.keep _ _ _ h2 (fun o q=>e3.extBut _ _ D.TOi2.symm (e2.extBut _ _ D.i12.symm (e1.extBut _ _ D.i2z q))) fun o q=>e3.extBut _ _ D.l2TO (e2.extBut _ _ D.l2i1 (e1.extBut _ _ D.l2z q))) hy fun g4 h24 e4=>wpAny_pure ?_)
 have hTO4:IsPair g4 TO x b:=e4.extBut _ _ D.TOi2 hTO3
 refine wpAny_bind (wpAny_seqItems hTO4 rfl (show _ from ?_))
 refine wpAny_bind (wpAny_updateSeq_pair hTO4 fun g5 hTO5 e5=>?_)
 replace hTO5:IsPair g5 TO x y:=hTO5
 refine wpAny_bind (wpAny_letGo (wpAny_pure (wpAny_pure (show _ from ?_))))
 refine wpAny_bind (wpAny_seqItems hTO5 rfl (show _ from ?_))
 refine wpAny_bind (wpAny_newTuple (show _ from ?_))
 have hsz:g5.objs.size=s.heap.objs.size:=by rw[e5.1,e4.1,e3.1,e2.1,e1.1]
 have hz5:IsZip g5 z TI TO .ellipsis:=e5.extBut _ _ D.TOz.symm (e4.extBut _ _ D.i2z.symm (e3.extBut _ _ D.TOz.symm (e2.extBut _ _ D.i1z.symm hz1)))
 have hk5:∀c o,c≠z->c≠TO->c≠i1->c≠i2->s.heap.get? c=some o->g5.get? c=some o:=fun c o c1 c2 c3 c4 q=>e5.extBut _ _ c2 (e4.extBut _ _ c4 (e3.extBut _ _ c2 (e2.extBut _ _ c3 (e1.extBut _ _ c1 q))))
 have h15:st1 (k+1) g5:=S1.keep _ _ _ h12 (fun o q=>e5.extBut _ _ D.TOi1.symm (e4.extBut _ _ D.i12 (e3.extBut _ _ D.TOi1.symm q))) fun o q=>e5.extBut _ _ D.l1TO (e4.extBut _ _ D.l1i2 (e3.extBut _ _ D.l1TO q))
 have h25:st2 (k+1) g5:=S2.keep _ _ _ h24 (fun o q=>e5.extBut _ _ D.TOi2.symm q) fun o q=>e5.extBut _ _ D.l2TO q
 have hzlt:z<g5.objs.size:=Heap.lt_size hz5
 show wpAny _ _ (Builtin.SmallTypes.ownedTupleHandOut (.ref z) (.ref g5.objs.size)>>=fun _=>_) _ _ _
 refine wpAny_bind ?_
 unfold Builtin.SmallTypes.ownedTupleHandOut
 have hz6:IsZip (g5.push { cls:=.type "tuple",data:=.seq #[x,y] }) z TI TO .ellipsis:=Heap.get?_push_of_some _ hz5
 refine wpAny_bind (wpAny_setField_rec hz6 (by simp) fun g7 hz7 e7=>?_)
 replace hz7:IsZip g7 z TI TO (rawInt g5.objs.size):=hz7
 refine wpAny_setField_rec hz7 (by simp) fun g8 hz8 e8=>?_
 replace hz8:IsZip g8 z TI TO (rawInt g5.objs.size):=hz8
 have up:∀c o,c≠z->g5.get? c=some o->g8.get? c=some o:=fun c o c1 q=>e8.extBut _ _ c1 (e7.extBut _ _ c1 (Heap.get?_push_of_some _ q))
 have hT8:IsPair g8 g5.objs.size x y:=e8.extBut _ _ (Nat.ne_of_gt hzlt) (e7.extBut _ _ (Nat.ne_of_gt hzlt) (Heap.get?_push_size _ rfl))
 have sz8:g8.objs.size=g5.objs.size+1:=by rw[e8.1,e7.1,Heap.size_push]
 rw[hsz] at hz8 hT8 sz8
 refine wpAny_pure ⟨_,rfl,?_⟩
 show Q (.ref g5.objs.size) _
 rw[hsz]
 exact hQ g8 hz8 (up _ _ D.TOz hTO5) (S1.keep _ _ _ h15 (fun o q=>up _ o D.i1z q) fun o q=>up _ o D.l1z q) (S2.keep _ _ _ h25 (fun o q=>up _ o D.i2z q) fun o q=>up _ o D.l2z q) hT8 sz8 fun c o c1 c2 c3 c4 q=>up c o c1 (hk5 c o c1 c2 c3 c4 q)
theorem Ft (hh:A.handled=none) (D:ZipApart z TI TO i1 i2 l1 l2) (S1:SubIt P w i1 l1 xs st1) (S2:SubIt P w i2 l2 ys st2)
  (hz:IsZip s.heap z TI TO .none) (hTI:IsPair s.heap TI (.ref i1) (.ref i2)) (hTO:IsPair s.heap TO a b) (h1:st1 k s.heap) (h2:st2 k s.heap) (hend:xs[k]?=none∨ys[k]?=none)
  (hE:∀h' e,(∀c o,c≠z->c≠TO->c≠i1->c≠i2->s.heap.get? c=some o->h'.get? c=some o)->(∃o,h'.get? e=some o∧o.cls=.type "StopIteration")->E (.ref e) { s with heap:=h' }) :
  wpAny (model P w) A (Builtin.«zip.__next__» ⟨[.ref z],[]⟩) Q E s:=by
 show wpAny _ _ (field (.ref z) 2>>=fun _=>_) _ _ _
 refine wpAny_bind (wpAny_field hz rfl (x:=.bool false) rfl (show _ from ?_))
 show wpAny _ _ (field (.ref z) 3>>=fun _=>_) _ _ _
 refine wpAny_bind (wpAny_field hz rfl (x:=.ref TI) rfl (show _ from ?_))
 refine wpAny_bind (wpAny_seqItems hTI rfl (show _ from ?_))
 show wpAny _ _ (Builtin.SmallTypes.ownedTupleIsFree (.ref z)>>=fun _=>_) _ _ _
 refine wpAny_bind ?_
 unfold Builtin.SmallTypes.ownedTupleIsFree
 refine wpAny_bind (wpAny_field hz rfl (x:=.none) rfl (wpAny_pure (show _ from ?_)))
 simp only[if_true]
 refine wpAny_bind (wpAny_rule (show _ from ?_))
 refine wpAny_bind (wpAny_field hz rfl (x:=.ref TO) rfl (show _ from ?_))
 refine wpAny_bind (wpAny_setField_rec hz (by simp) fun g1 hz1 e1=>?_)
 replace hz1:IsZip g1 z TI TO .ellipsis:=hz1
 refine wpAny_bind ?_
 simp only[List.zipIdx_cons,List.zipIdx_nil,List.forIn_cons,List.forIn_nil]
 refine wpAny_bind (wpAny_bind (wpAny_onRaise (show _ from ?_)))
 show wpAny _ _ (Builtin.SmallTypes.nextOf (.ref i1)>>=fun _=>_) _ _ _
 have h11:st1 k g1:=S1.keep _ _ _ h1 (fun o q=>e1.extBut _ _ D.i1z q) fun o q=>e1.extBut _ _ D.l1z q
 cases hx:xs[k]? with
 |none=>
   refine wpAny_bind (S1.done _ k _ _ _ hh h11 hx fun g2 e e2 he=>?_)
   obtain⟨oe,hoe,hce⟩:=he
   have hz2:IsZip g2 z TI TO .ellipsis:=e2 _ _ D.i1z.symm hz1
   have hez:e≠z:=fun q=>by subst q;rw[hz2] at hoe;cases hoe;simp at hce
   refine wpAny_setField_rec hz2 (by simp) fun g3 _ e3=>hE g3 e (fun c o c1 _ c3 _ q=>e3.extBut _ _ c1 (e2 _ _ c3 (e1.extBut _ _ c1 q))) ⟨oe,e3.extBut _ _ hez hoe,hce⟩
 |some x=>
   have hy:ys[k]?=none:=by rcases hend with q | q;rw[hx] at q;cases q;exact q
   refine wpAny_bind (S1.item _ k _ x _ _ h11 hx fun g2 h12 e2=>wpAny_pure ?_)
   have hTO2:IsPair g2 TO a b:=e2.extBut _ _ D.TOi1 (e1.extBut _ _ D.TOz hTO)
   refine wpAny_bind (wpAny_seqItems hTO2 rfl (show _ from ?_))
   refine wpAny_bind (wpAny_updateSeq_pair hTO2 fun g3 hTO3 e3=>?_)
   refine wpAny_bind (wpAny_letGo (wpAny_pure (show _ from ?_)))
   refine wpAny_bind (wpAny_bind (wpAny_onRaise (show _ from ?_)))
   show wpAny _ _ (Builtin.SmallTypes.nextOf (.ref i2)>>=fun _=>_) _ _ _
   refine wpAny_bind (S2.done _ k _ _ _ hh (S2.keep _ _ _ h2 (fun o q=>e3.extBut _ _ D.TOi2.symm (e2.extBut _ _ D.i12.symm (e1.extBut _ _ D.i2z q))) fun o q=>e3.extBut _ _ D.l2TO (e2.extBut _ _ D.l2i1 (e1.extBut _ _ D.l2z q))) hy fun g4 e e4 he=>?_)
   obtain⟨oe,hoe,hce⟩:=he
   have hz4:IsZip g4 z TI TO .ellipsis:=e4 _ _ D.i2z.symm (e3.extBut _ _ D.TOz.symm (e2.extBut _ _ D.i1z.symm hz1))
   have hez:e≠z:=fun q=>by subst q;rw[hz4] at hoe;cases hoe;simp at hce
   refine wpAny_setField_rec hz4 (by simp) fun g5 _ e5=>hE g5 e (fun c o c1 c2 c3 c4 q=>e5.extBut _ _ c1 (e4 _ _ c4 (e3.extBut _ _ c2 (e2.extBut _ _ c3 (e1.extBut _ _ c1 q))))) ⟨oe,e5.extBut _ _ hez hoe,hce⟩
end
abbrev o5(h:Heap)(T1:String)(l1:Addr):Heap:=h.push { cls:=.type T1,data:=.fields #[.ref l1,.int 0 0] }
abbrev Gs(h:Heap)(T1 T2:String)(l1 l2:Addr):Heap:=(o5 h T1 l1).push { cls:=.type T2,data:=.fields #[.ref l2,.int 0 0] }
abbrev Gu(h:Heap)(T1 T2:String)(l1 l2:Addr):Heap:=(Gs h T1 T2 l1 l2).push { cls:=.type "tuple",data:=.seq #[.ref h.objs.size,.ref (o5 h T1 l1).objs.size] }
abbrev qm(h:Heap)(T1 T2:String)(l1 l2:Addr):Heap:=(Gu h T1 T2 l1 l2).push { cls:=.type "tuple",data:=.seq #[.none,.none] }
abbrev lM(h:Heap)(T1 T2:String)(l1 l2:Addr):Heap:=(qm h T1 T2 l1 l2).push { cls:=.type "zip",data:=.fields #[.none,.bool false,.bool false,.ref (Gs h T1 T2 l1 l2).objs.size,.ref (Gu h T1 T2 l1 l2).objs.size] }
theorem w5(l1 l2:Addr)(xs ys:Array Value) :
  Meets (Builtin.«zip.__new__» ⟨[.type "zip",.ref l1,.ref l2],[]⟩) (fun _ R s=>IsTup s.heap l1 xs∧IsTup s.heap l2 ys∧R (.ok (.ret (.ref (qm s.heap "tuple_iterator" "tuple_iterator" l1 l2).objs.size))) { s with heap:=lM s.heap "tuple_iterator" "tuple_iterator" l1 l2 }):=
 .of_wp fun prog w A R s h=>by
  obtain⟨hp,gn,dr,tk,os⟩:=s;obtain⟨k1,k2,h⟩:=h
  have hsub:=sub_zip
  have K1:IsTup (Shared.heap ⟨hp,gn,dr,tk,os⟩) l1 xs:=k1
  have K2:IsTup (Shared.heap ⟨hp.push { cls:=.type "tuple_iterator",data:=.fields #[.ref l1,.int 0 0] },gn,dr,tk,os⟩) l2 ys:=k2.push _
  wp_walk using iter_tuple K1,iter_tuple K2
  exact⟨_,rfl,h⟩
theorem wY(l1 l2:Addr)(xs ys:Array Value) :
  Meets (Builtin.«zip.__new__» ⟨[.type "zip",.ref l1,.ref l2],[]⟩) (fun _ R s=>s.heap.IsList l1 xs∧IsTup s.heap l2 ys∧R (.ok (.ret (.ref (qm s.heap "list_iterator" "tuple_iterator" l1 l2).objs.size))) { s with heap:=lM s.heap "list_iterator" "tuple_iterator" l1 l2 }):=
 .of_wp fun prog w A R s h=>by
  obtain⟨hp,gn,dr,tk,os⟩:=s;obtain⟨k1,k2,h⟩:=h
  have hsub:=sub_zip
  have K1:Heap.IsList (Shared.heap ⟨hp,gn,dr,tk,os⟩) l1 xs:=k1
  have K2:IsTup (Shared.heap ⟨hp.push { cls:=.type "list_iterator",data:=.fields #[.ref l1,.int 0 0] },gn,dr,tk,os⟩) l2 ys:=k2.push _
  wp_walk using wpAny_pyIter_list K1,iter_tuple K2
  exact⟨_,rfl,h⟩
theorem wZ(l1 l2:Addr)(xs ys:Array Value) :
  Meets (Builtin.«zip.__new__» ⟨[.type "zip",.ref l1,.ref l2],[]⟩) (fun _ R s=>IsTup s.heap l1 xs∧s.heap.IsList l2 ys∧R (.ok (.ret (.ref (qm s.heap "tuple_iterator" "list_iterator" l1 l2).objs.size))) { s with heap:=lM s.heap "tuple_iterator" "list_iterator" l1 l2 }):=
 .of_wp fun prog w A R s h=>by
  obtain⟨hp,gn,dr,tk,os⟩:=s;obtain⟨k1,k2,h⟩:=h
  have hsub:=sub_zip
  have K1:IsTup (Shared.heap ⟨hp,gn,dr,tk,os⟩) l1 xs:=k1
  have K2:Heap.IsList (Shared.heap ⟨hp.push { cls:=.type "tuple_iterator",data:=.fields #[.ref l1,.int 0 0] },gn,dr,tk,os⟩) l2 ys:=Heap.IsList.push k2 _
  wp_walk using iter_tuple K1,wpAny_pyIter_list K2
  exact⟨_,rfl,h⟩
theorem wX(l1 l2:Addr)(xs ys:Array Value) :
  Meets (Builtin.«zip.__new__» ⟨[.type "zip",.ref l1,.ref l2],[]⟩) (fun _ R s=>s.heap.IsList l1 xs∧s.heap.IsList l2 ys∧R (.ok (.ret (.ref (qm s.heap "list_iterator" "list_iterator" l1 l2).objs.size))) { s with heap:=lM s.heap "list_iterator" "list_iterator" l1 l2 }):=
 .of_wp fun prog w A R s h=>by
  obtain⟨hp,gn,dr,tk,os⟩:=s;obtain⟨k1,k2,h⟩:=h
  have hsub:=sub_zip
  have K1:Heap.IsList (Shared.heap ⟨hp,gn,dr,tk,os⟩) l1 xs:=k1
  have K2:Heap.IsList (Shared.heap ⟨hp.push { cls:=.type "list_iterator",data:=.fields #[.ref l1,.int 0 0] },gn,dr,tk,os⟩) l2 ys:=Heap.IsList.push k2 _
  wp_walk using wpAny_pyIter_list K1,wpAny_pyIter_list K2
  exact⟨_,rfl,h⟩
def eX(b:Bool)(h:Heap)(l:Addr)(xs:Array Value):Prop:=if b then IsTup h l xs else h.IsList l xs
def o8(b:Bool)(i l:Addr)(xs:Array Value)(k:Nat)(h:Heap):Prop:=(if b then IsTupIter h i l k else h.IsListIter i l k)∧eX b h l xs
theorem jf(b:Bool)(hne:l≠i)(its:Array Value):SubIt P w i l its (o8 b i l its):=by
 cases b with
 |true=>exact HQ hne its
 |false=>exact HN hne its
theorem eX.lt(q:eX b h l xs):l<h.objs.size:=by
 cases b with
 |true=>obtain⟨o,e,_⟩:=(show IsTup h l xs from q);exact Heap.lt_size e
 |false=>obtain⟨o,e,_⟩:=(show h.IsList l xs from q);exact Heap.lt_size e
theorem eX.keep(q:eX b h l xs)(k:∀o,h.get? l=some o->h'.get? l=some o):eX b h' l xs:=by
 cases b with
 |true=>obtain⟨o,e,r⟩:=(show IsTup h l xs from q);exact⟨o,k _ e,r⟩
 |false=>obtain⟨o,e,r⟩:=(show h.IsList l xs from q);exact⟨o,k _ e,r⟩
section
variable{P:Program}{w:World}{A:Around}{E:Value->Shared->Prop}{s:Shared}{l1 l2:Addr}{xs ys:Array Value}
theorem Bl (k1:eX b1 s.heap l1 xs) (k2:eX b2 s.heap l2 ys)
  (h:∀h',IsZip h' (s.heap.objs.size+4) (s.heap.objs.size+2) (s.heap.objs.size+3) .none->IsPair h' (s.heap.objs.size+2) (.ref s.heap.objs.size) (.ref (s.heap.objs.size+1))->IsPair h' (s.heap.objs.size+3) .none .none->
    o8 b1 s.heap.objs.size l1 xs 0 h'->o8 b2 (s.heap.objs.size+1) l2 ys 0 h'->h'.objs.size=s.heap.objs.size+5->(∀c o,s.heap.get? c=some o->h'.get? c=some o)->Q (.ref (s.heap.objs.size+4)) { s with heap:=h' }) :
  wpAny (model P w) A (call (.type "zip") [.ref l1,.ref l2]) Q E s:=by
 have fin:∀T1 T2,(∀h' k,h'.get? s.heap.objs.size=some { cls:=.type T1,data:=.fields #[.ref l1,.int 0 0] }->eX b1 h' l1 xs->k=0->o8 b1 s.heap.objs.size l1 xs k h')->
   (∀h' k,h'.get? (s.heap.objs.size+1)=some { cls:=.type T2,data:=.fields #[.ref l2,.int 0 0] }->eX b2 h' l2 ys->k=0->o8 b2 (s.heap.objs.size+1) l2 ys k h')->
   s.TypeIs (.ref (qm s.heap T1 T2 l1 l2).objs.size) "zip"∨True->Q (.ref (qm s.heap T1 T2 l1 l2).objs.size) { s with heap:=lM s.heap T1 T2 l1 l2 }∧({ s with heap:=lM s.heap T1 T2 l1 l2 }:Shared).TypeIs (.ref (qm s.heap T1 T2 l1 l2).objs.size) "zip":=by
  intro T1 T2 f1 f2 _
  have z1:(o5 s.heap T1 l1).objs.size=s.heap.objs.size+1:=Heap.size_push ..
  have z2:(Gs s.heap T1 T2 l1 l2).objs.size=s.heap.objs.size+2:=by rw[Heap.size_push,z1]
  have z3:(Gu s.heap T1 T2 l1 l2).objs.size=s.heap.objs.size+3:=by rw[Heap.size_push,z2]
  have z4:(qm s.heap T1 T2 l1 l2).objs.size=s.heap.objs.size+4:=by rw[Heap.size_push,z3]
  have z5:(lM s.heap T1 T2 l1 l2).objs.size=s.heap.objs.size+5:=by rw[Heap.size_push,z4]
  have up:∀c o,s.heap.get? c=some o->(lM s.heap T1 T2 l1 l2).get? c=some o:=fun c o q=>Heap.get?_push_of_some _ (Heap.get?_push_of_some _ (Heap.get?_push_of_some _ (Heap.get?_push_of_some _ (Heap.get?_push_of_some _ q))))
  have q5:(lM s.heap T1 T2 l1 l2).get? (qm s.heap T1 T2 l1 l2).objs.size=some _:=Heap.get?_push_size _ rfl
  have q4:(lM s.heap T1 T2 l1 l2).get? (Gu s.heap T1 T2 l1 l2).objs.size=some _:=Heap.get?_push_of_some _ (Heap.get?_push_size _ rfl)
  have q3:(lM s.heap T1 T2 l1 l2).get? (Gs s.heap T1 T2 l1 l2).objs.size=some _:=Heap.get?_push_of_some _ (Heap.get?_push_of_some _ (Heap.get?_push_size _ rfl))
  have q2:(lM s.heap T1 T2 l1 l2).get? (o5 s.heap T1 l1).objs.size=some _:=Heap.get?_push_of_some _ (Heap.get?_push_of_some _ (Heap.get?_push_of_some _ (Heap.get?_push_size _ rfl)))
  have q1:(lM s.heap T1 T2 l1 l2).get? s.heap.objs.size=some _:=Heap.get?_push_of_some _ (Heap.get?_push_of_some _ (Heap.get?_push_of_some _ (Heap.get?_push_of_some _ (Heap.get?_push_size _ rfl))))
  rw[z2,z3,z4] at q5
  rw[z1,z2] at q3
  rw[z3] at q4
  rw[z1] at q2
  rw[z4]
  exact⟨h _ q5 q3 q4 (f1 _ 0 q1 (k1.keep fun o q=>up _ _ q) rfl) (f2 _ 0 q2 (k2.keep fun o q=>up _ _ q) rfl) z5 up,_,q5,rfl⟩
 cases b1 with
 | true=>cases b2 with
   |true=>
     refine callType_new F.called_zip (by decide) (F.typeCall_zip_2 _ _) (F.newCall_zip_2 _ _) (fun obj=>F.args_object_init_3 obj _ _) F.entry_zip_new (w5 l1 l2 xs ys) ⟨k1,k2,?_⟩
     obtain⟨a1,a2⟩:=fin "tuple_iterator" "tuple_iterator" (fun h' k q q' e=>by subst e;exact⟨⟨_,q,rfl,rfl⟩,q'⟩) (fun h' k q q' e=>by subst e;exact⟨⟨_,q,rfl,rfl⟩,q'⟩) (.inr trivial)
     exact⟨a2,a1⟩
   |false=>
     refine callType_new F.called_zip (by decide) (F.typeCall_zip_2 _ _) (F.newCall_zip_2 _ _) (fun obj=>F.args_object_init_3 obj _ _) F.entry_zip_new (wZ l1 l2 xs ys) ⟨k1,k2,?_⟩
     obtain⟨a1,a2⟩:=fin "tuple_iterator" "list_iterator" (fun h' k q q' e=>by subst e;exact⟨⟨_,q,rfl,rfl⟩,q'⟩) (fun h' k q q' e=>by subst e;exact⟨⟨_,q,rfl,rfl⟩,q'⟩) (.inr trivial)
     exact⟨a2,a1⟩
 | false=>cases b2 with
   |true=>
     refine callType_new F.called_zip (by decide) (F.typeCall_zip_2 _ _) (F.newCall_zip_2 _ _) (fun obj=>F.args_object_init_3 obj _ _) F.entry_zip_new (wY l1 l2 xs ys) ⟨k1,k2,?_⟩
     obtain⟨a1,a2⟩:=fin "list_iterator" "tuple_iterator" (fun h' k q q' e=>by subst e;exact⟨⟨_,q,rfl,rfl⟩,q'⟩) (fun h' k q q' e=>by subst e;exact⟨⟨_,q,rfl,rfl⟩,q'⟩) (.inr trivial)
     exact⟨a2,a1⟩
   |false=>
     refine callType_new F.called_zip (by decide) (F.typeCall_zip_2 _ _) (F.newCall_zip_2 _ _) (fun obj=>F.args_object_init_3 obj _ _) F.entry_zip_new (wX l1 l2 xs ys) ⟨k1,k2,?_⟩
     obtain⟨a1,a2⟩:=fin "list_iterator" "list_iterator" (fun h' k q q' e=>by subst e;exact⟨⟨_,q,rfl,rfl⟩,q'⟩) (fun h' k q q' e=>by subst e;exact⟨⟨_,q,rfl,rfl⟩,q'⟩) (.inr trivial)
     exact⟨a2,a1⟩
end
section
variable{X:Cx}{pins:List (Addr×Obj)}{σ:St}{H:Hp}{s:Shared}{h':Heap}
theorem Inv.turnedL{t':Nat}{ch:List Addr}(I:Inv X pins σ H s)(k:∀b o,b∉ch->s.heap.get? b=some o->h'.get? b=some o)(hf:∀b∈ch,FpOk X pins H b)(hL:∀b∈ch,b≠X.env.locals):Inv X pins σ H { s with heap:=h',toks:=t' }:=by
 have nit:∀b u,H b=some u->b∉ch:=fun b u e z=>by have:=(hf b z).1;rw[e] at this;cases this
 refine I.step (g':=s.gens) (d':=s.drawn) (ch:=ch) (fun b hb=>?_) (fun b o _ _ hc e _=>k b o hc e) (fun b o _ _ hc e _=>⟨o.slots,k b o hc e⟩) (fun _ _ _ _ n=>n)
  (fun b o hc e=>⟨o,k b o hc e⟩) (fun _ _ e=>e) (fun _ _ _ e=>e) (fun b ps e=>⟨#[],by rw[e];simp⟩) (fun m hm=>?_) (fun b u e=>?_) I.bare
 ·obtain⟨_,f1,_,f3,f4,f5⟩:=hf b hb
  exact⟨f3,f1,f4,f5⟩
 ·obtain⟨o,es,ep,ho,r⟩:=hm
  exact⟨o,es,ep,k _ o (fun z=>(hL _ z) rfl) ho,r⟩
 ·refine (I.hok b u e).stay (fun c v hc q=>k c v ?_ q) (fun _ q=>q) fun _ _ q=>q
  rcases hc with z | z
  ·rw[z];exact nit b u e
  ·exact nit c _ z
theorem Inv.turnedLay {t':Nat}{ch:List Addr}{p:Addr}{o:HO} (I:Inv X pins σ H s) (k:∀ b o,b∉ch->s.heap.get? b=some o->h'.get? b=some o) (hf:∀ b∈ch,FpOk X pins H b) (hp:s.heap.objs.size≤p) (new:ObjOk X.prog X.w (upd H p o) h' p o):Inv X pins σ (upd H p o) { s with heap:=h',toks:=t' }:=by
 have nit:∀b u,H b=some u->b∉ch:=fun b u e z=>by have:=(hf b z).1;rw[e] at this;cases this
 have hn:H p=none:=I.hok.fresh hp
 have tr:∀b u,H b=some u->upd H p o b=some u:=fun b u e=>by rw[upd_ne (ne_of_none e hn)];exact e
 refine I.step (g':=s.gens) (d':=s.drawn) (ch:=ch) (fun b hb=>?_) (fun b o _ _ hc e _=>k b o hc e) (fun b o _ _ hc e _=>⟨o.slots,k b o hc e⟩) (fun b u _ e n=>by rw[upd_ne (Nat.ne_of_lt (Nat.lt_of_lt_of_le (Heap.lt_size e) hp))];exact n)
  (fun b o hc e=>⟨o,k b o hc e⟩) (fun b xs e=>tr b _ e) (fun b _ _ e=>tr b _ e) (fun b ps e=>⟨#[],by rw[tr b _ e];simp⟩) (fun m hm=>?_) (fun b u e=>?_) I.bare
 ·obtain⟨_,f1,_,f3,f4,f5⟩:=hf b hb
  exact⟨f3,f1,f4,f5⟩
 ·obtain⟨o,es,ep,ho,r⟩:=hm
  exact⟨o,es,ep,k _ o (fun z=>(hf _ z).2.1 rfl) ho,r⟩
 ·by_cases z:b=p
  ·subst z
   rw[upd_same] at e;cases e
   exact new
  ·rw[upd_ne z] at e
   refine (I.hok b u e).stay (fun c v hc q=>k c v ?_ q) (fun c q=>tr c _ q) (fun c xs q=>tr c _ q) fun c o q=>tr c _ q
   rcases hc with y | y
   ·rw[y];exact nit b u e
   ·exact nit c _ y
end
def km(b:Bool)(K:PySem.W.Frag)(H:Hp)(l:Addr)(xs:List V):Prop:=if b then SqT K H l xs else SqL K H l xs
theorem Inv.seqS{X:Cx}{pins:List (Addr×Obj)}{σ:St}{H:Hp}{s:Shared}{b:Bool}{l:Addr}{xs:List V}(I:Inv X pins σ H s)(h:km b X.K H l xs):∃its:List Value,Vals xs its∧eX b s.heap l its.toArray∧xs.length≤sizeLine:=by
 cases b with
 |true=>obtain⟨its,r,p,z⟩:=I.tuple (show SqT X.K H l xs from h);exact⟨its,r,p,z⟩
 |false=>obtain⟨its,r,p,z⟩:=I.list (show SqL X.K H l xs from h);exact⟨its,r,p.isList,z⟩
theorem Inv.seqS_inj{X:Cx}{pins:List (Addr×Obj)}{σ:St}{H:Hp}{s:Shared}{b:Bool}{l:Addr}{xs ys:List V}(I:Inv X pins σ H s)(h:km b X.K H l xs)(q:km b X.K H l ys):xs=ys:=by
 cases b with
 |true=>exact I.tuple_inj (show SqT X.K H l xs from h) q
 |false=>exact I.list_inj (show SqL X.K H l xs from h) q
def dF(b:Bool)(i l:Addr)(k:Nat)(h:Heap):Prop:=if b then IsTupIter h i l k else h.IsListIter i l k
theorem dF.keep{b:Bool}{i l:Addr}{k:Nat}{h h':Heap}(q:dF b i l k h)(kk:∀o,h.get? i=some o->h'.get? i=some o):dF b i l k h':=by
 cases b with
 |true=>obtain⟨o,e,r⟩:=(show IsTupIter h i l k from q);exact⟨o,kk _ e,r⟩
 |false=>obtain⟨o,e,r⟩:=(show h.IsListIter i l k from q);exact⟨o,kk _ e,r⟩
theorem dF.obj{b:Bool}{i l:Addr}{k:Nat}{h:Heap}(q:dF b i l k h):∃o,h.get? i=some o∧∀v,o.data≠.cell v:=by
 cases b with
 |true=>obtain⟨o,e,_,d⟩:=(show IsTupIter h i l k from q);exact⟨o,e,fun v z=>by rw[d] at z;cases z⟩
 |false=>obtain⟨o,e,_,d⟩:=(show h.IsListIter i l k from q);exact⟨o,e,fun v z=>by rw[d] at z;cases z⟩
def Ms(K:PySem.W.Frag)(b1 b2:Bool)(l1 l2:Addr):It:=
 ⟨fun i H=>∃xs ys x y,km b1 K H l1 xs∧km b2 K H l2 ys∧xs[i]?=some x∧ys[i]?=some y,
  fun i H v H'=>∃p,H p=none∧v=.ref p∧∀xs ys,km b1 K H l1 xs->km b2 K H l2 ys->∃x y,xs[i]?=some x∧ys[i]?=some y∧H'=upd H p (.tup [x,y]),
  fun i H=>∃xs ys,km b1 K H l1 xs∧km b2 K H l2 ys∧(xs[i]?=none∨ys[i]?=none)⟩
theorem qg{P:Program}{w:World}{A:Around}{E:Value->Shared->Prop}{s:Shared}{z TI TO:Addr}{f0:Value}{Q:Option Value->Shared->Prop}(hz:IsZip s.heap z TI TO f0)
  (h:wpAny (model P w) A.in1 (Builtin.«zip.__next__» ⟨[.ref z],[]⟩) (fun fin s'=>∃v,fin=.done (.ret v)∧Q (some v) s') (fun e s'=>∃o ea,e=.ref ea∧s'.heap.get? ea=some o∧o.cls=.type "StopIteration"∧Q none s') s):wpAny (model P w) A (pyNext (.ref z)) Q E s:=by
 have hT:s.TypeIs (.ref z) "zip":=⟨_,hz,rfl⟩
 unfold pyNext
 refine wpAny_bind (wpAny_attempt (wpAny_callSpecial?_slot (name:=Str.ofString "__next__") hT F.slot_zip_next (wpAny_call_entry F.slot_zip_next hT F.entry_zip_next (wpAny_mono h (fun fin s' q=>?_) fun e s' q=>?_) (F.args_zip_next_1 _))))
 ·obtain⟨v,rfl,q⟩:=q
  exact⟨v,rfl,wpAny_pure q⟩
 ·obtain⟨o,ea,rfl,ho,hc,q⟩:=q
  exact wpAny_bind (wpAny_isInstance (T := "StopIteration") (b:=true) ⟨o,ho,hc⟩ isSubtype_stop (wpAny_pure q))
theorem Fj {P:Program}{w:World}{K:PySem.W.Frag}{elts:List Expr}{x1}{tp:Pos}{b1 b2:Bool}{z TI TO i1 i2 l1 l2:Addr} (D:ZipApart z TI TO i1 i2 l1 l2) :
  Turn P w K (.Tuple elts x1 tp) (Ms K b1 b2 l1 l2) [z,TI,TO,i1,i2] z (fun i h=>IsZip h z TI TO .none∧IsPair h TI (.ref i1) (.ref i2)∧(∃a b,IsPair h TO a b)∧dF b1 i1 l1 i h∧dF b2 i2 l2 i h) where
 mem:=by simp
 obj:=fun i h st b hb=>by
  obtain⟨hz,hTI,⟨a,c,hTO⟩,h1,h2⟩:=st
  simp only[List.mem_cons,List.mem_nil_iff,or_false] at hb
  rcases hb with rfl | rfl | rfl | rfl | rfl
  ·exact⟨_,hz,fun v q=>by cases q⟩
  ·exact⟨_,hTI,fun v q=>by cases q⟩
  ·exact⟨_,hTO,fun v q=>by cases q⟩
  ·exact h1.obj
  ·exact h2.obj
 keep:=fun i h h' st k=>by
  obtain⟨hz,hTI,⟨a,c,hTO⟩,h1,h2⟩:=st
  exact⟨k z (by simp) _ hz,k TI (by simp) _ hTI,⟨a,c,k TO (by simp) _ hTO⟩,h1.keep fun o q=>k i1 (by simp) o q,h2.keep fun o q=>k i2 (by simp) o q⟩
 item:=by
  intro X hP hw hK hc i pins s σ H E I hf st hg
  subst hP hw hK
  obtain⟨hz,hTI,⟨a,c,hTO⟩,h1,h2⟩:=st
  obtain⟨xs,ys,x,y,s1,s2,hx,hy⟩:=hg
  obtain⟨its1,r1,q1,_⟩:=I.seqS s1
  obtain⟨its2,r2,q2,_⟩:=I.seqS s2
  obtain⟨u1,e1,ru1⟩:=r1.get hx
  obtain⟨u2,e2,ru2⟩:=r2.get hy
  refine qg hz (wpAny_mono (Dn D (jf b1 D.l1i1 its1.toArray) (jf b2 D.l2i2 its2.toArray) hz hTI hTO ⟨h1,q1⟩ ⟨h2,q2⟩ (by simpa using e1) (by simpa using e2) (Q:=fun v s'=>∃h',v=.ref s.heap.objs.size∧s'={ s with heap:=h' }∧IsZip h' z TI TO (rawInt s.heap.objs.size)∧IsPair h' TO u1 u2∧dF b1 i1 l1 (i+1) h'∧dF b2 i2 l2 (i+1) h'∧IsPair h' s.heap.objs.size u1 u2∧(∀c o,c≠z->c≠TO->c≠i1->c≠i2->s.heap.get? c=some o->h'.get? c=some o)) (E:=fun _ _=>False)
   fun h' a1 a2 a3 a4 a5 a6 a7=>⟨h',rfl,rfl,a1,a2,a3.1,a4.1,a5,a7⟩) (fun fin s' q=>?_) fun _ _ q=>q.elim)
  obtain⟨v,rfl,h',rfl,rfl,a1,a2,a3,a4,a5,a7⟩:=q
  refine⟨_,rfl,_,rfl,wpAny_letOwnedTupleGo_zip a1 fun h2' hz' hs'=>?_⟩
  have lt:z<s.heap.objs.size:=Heap.lt_size hz
  have kk:∀b o,b∉[z,TI,TO,i1,i2]->s.heap.get? b=some o->h2'.get? b=some o:=fun b o hb q=>hs'.extBut _ _ (fun e=>hb (by simp[e])) (a7 b o (fun e=>hb (by simp[e])) (fun e=>hb (by simp[e])) (fun e=>hb (by simp[e])) (fun e=>hb (by simp[e])) q)
  have fresh:H s.heap.objs.size=none:=I.hok.fresh (Nat.le_refl _)
  have I1:Inv X pins σ H { s with heap:=h2',toks:=s.toks }:=I.turnedL kk hf (fun b hb=>(hf b hb).2.1)
  have pr:IsPair h2' s.heap.objs.size u1 u2:=hs'.extBut _ _ (Nat.ne_of_gt lt) a5
  have nw:ObjOk X.prog X.w (upd H s.heap.objs.size (.tup [x,y])) h2' s.heap.objs.size (.tup [x,y]):=⟨by show 2≤sizeLine;decide,[u1,u2],.cons ru1 (.cons ru2 .nil),⟨_,pr,rfl,_,rfl⟩⟩
  have nfp:∀b∈[z,TI,TO,i1,i2],b≠s.heap.objs.size:=fun b hb e=>by
   obtain⟨o,ho,_⟩:∃o,s.heap.get? b=some o∧True:=by
    simp only[List.mem_cons,List.mem_nil_iff,or_false] at hb
    rcases hb with rfl | rfl | rfl | rfl | rfl
    ·exact⟨_,hz,trivial⟩
    ·exact⟨_,hTI,trivial⟩
    ·exact⟨_,hTO,trivial⟩
    ·obtain⟨o,q,_⟩:=h1.obj;exact⟨o,q,trivial⟩
    ·obtain⟨o,q,_⟩:=h2.obj;exact⟨o,q,trivial⟩
   exact absurd (Heap.lt_size ho) (by rw[e];exact Nat.lt_irrefl _)
  refine⟨.ref s.heap.objs.size,upd H s.heap.objs.size (.tup [x,y]),?_,rfl,⟨_,fresh,rfl,fun xs' ys' q1' q2'=>⟨x,y,by rw[I.seqS_inj q1' s1];exact hx,by rw[I.seqS_inj q2' s2];exact hy,rfl⟩⟩,⟨hz',?_,⟨u1,u2,hs'.extBut _ _ D.TOz a2⟩,a3.keep fun o q=>hs'.extBut _ _ D.i1z q,a4.keep fun o q=>hs'.extBut _ _ D.i2z q⟩,fun b hb=>by rw[upd_ne (nfp b hb)];exact (hf b hb).1⟩
  ·exact I.turnedLay (t':=s.toks) kk hf (Nat.le_refl _) nw
  ·exact hs'.extBut _ _ D.TIz (a7 _ _ D.TIz D.TITO D.TIi1 D.TIi2 hTI)
 done:=by
  intro X hP hw hK hc i pins s σ H E I hf st hg
  subst hP hw hK
  obtain⟨hz,hTI,⟨a,c,hTO⟩,h1,h2⟩:=st
  obtain⟨xs,ys,s1,s2,hend⟩:=hg
  obtain⟨its1,r1,q1,_⟩:=I.seqS s1
  obtain⟨its2,r2,q2,_⟩:=I.seqS s2
  have hend':its1.toArray[i]?=none∨its2.toArray[i]?=none:=hend.imp (fun q=>by simpa using r1.none_of q) fun q=>by simpa using r2.none_of q
  refine qg hz (Ft (show X.A.in1.handled=none from I.ok.hd hc) D (jf b1 D.l1i1 its1.toArray) (jf b2 D.l2i2 its2.toArray) hz hTI hTO ⟨h1,q1⟩ ⟨h2,q2⟩ hend' fun h' e kk he=>?_)
  obtain⟨o,ho,hco⟩:=he
  exact⟨o,e,rfl,ho,hco,rfl,I.turnedL (t':=s.toks) (fun b o hb q=>kk b o (fun e=>hb (by simp[e])) (fun e=>hb (by simp[e])) (fun e=>hb (by simp[e])) (fun e=>hb (by simp[e])) q) hf (fun b hb=>(hf b hb).2.1)⟩
 self:=fun _ _ _ _ _ st h=>wpAny_pyIter_zip st.1 h
theorem wW (l:Addr) (xs:Array Value) :
  Meets (Builtin.«enumerate.__new__» ⟨[.type "enumerate",.ref l],[]⟩) (fun _ R s=>IsTup s.heap l xs ∧
   R (.ok (.ret (.ref (o5 s.heap "tuple_iterator" l).objs.size))) { s with heap:=(o5 s.heap "tuple_iterator" l).push { cls:=.type "enumerate",data:=.fields #[.none,.bool false,.ref s.heap.objs.size,rawInt 0,.none,.none] } }):=
 .of_wp fun prog w A R s h=>by
  obtain⟨hp,gn,dr,tk,os⟩:=s;obtain⟨k1,h⟩:=h
  have hsub:=sub_enumerate
  have K1:IsTup (Shared.heap ⟨hp,gn,dr,tk,os⟩) l xs:=k1
  obtain⟨ot,hot,r⟩:=id K1
  wp_walk using AutoSeq1.wpAny_loadPart' hot
  refine wpAny_stack_any fun sk=>wpAny_pure ?_
  split
  ·rename_i c _ _ _ _ _
   cases (c==Value.type "enumerate")<;>(wp_walk using AutoSeq1.wpAny_loadPart' hot,iter_tuple K1;exact⟨_,rfl,h⟩)
  ·wp_walk using AutoSeq1.wpAny_loadPart' hot,iter_tuple K1
   exact⟨_,rfl,h⟩
section
variable{P:Program}{w:World}{A:Around}{E:Value->Shared->Prop}{s:Shared}{e it l:Addr}{xs:Array Value}{st:Nat->Heap->Prop}
theorem zx (k1:eX b s.heap l xs)
  (h:∀h',IsEnum h' (s.heap.objs.size+1) s.heap.objs.size 0 .none->o8 b s.heap.objs.size l xs 0 h'->h'.objs.size=s.heap.objs.size+2->(∀c o,s.heap.get? c=some o->h'.get? c=some o)->Q (.ref (s.heap.objs.size+1)) { s with heap:=h' }) :
  wpAny (model P w) A (call (.type "enumerate") [.ref l]) Q E s:=by
 cases b with
 |false=>exact call_enumerate_list (show s.heap.IsList l xs from k1) fun h' a1 a2 a3 a4=>h h' a1 ⟨a2,k1.keep fun o q=>a4 _ _ q⟩ a3 a4
 |true=>
   refine callType_new F.called_enumerate (by decide) (F.typeCall_enumerate_1 _) (F.newCall_enumerate_1 _) (fun obj=>F.args_object_init_2 obj _) F.entry_enumerate_new (wW l xs) ⟨k1,?_⟩
   have z1:(o5 s.heap "tuple_iterator" l).objs.size=s.heap.objs.size+1:=Heap.size_push ..
   have up:∀c o,s.heap.get? c=some o->((o5 s.heap "tuple_iterator" l).push { cls:=.type "enumerate",data:=.fields #[.none,.bool false,.ref s.heap.objs.size,rawInt 0,.none,.none] }).get? c=some o:=fun c o q=>Heap.get?_push_of_some _ (Heap.get?_push_of_some _ q)
   have q2:((o5 s.heap "tuple_iterator" l).push { cls:=.type "enumerate",data:=.fields #[.none,.bool false,.ref s.heap.objs.size,rawInt 0,.none,.none] }).get? (o5 s.heap "tuple_iterator" l).objs.size=some _:=Heap.get?_push_size _ rfl
   have q1:((o5 s.heap "tuple_iterator" l).push { cls:=.type "enumerate",data:=.fields #[.none,.bool false,.ref s.heap.objs.size,rawInt 0,.none,.none] }).get? s.heap.objs.size=some _:=Heap.get?_push_of_some _ (Heap.get?_push_size _ rfl)
   show _∧_
   rw[z1] at q2 ⊢
   exact⟨⟨_,q2,rfl⟩,h _ q2 ⟨⟨_,q1,rfl,rfl⟩,k1.keep fun o q=>up _ _ q⟩ (by rw[Heap.size_push,z1]) up⟩
theorem zH {i:Nat}{Q:Value->Shared->Prop} (S:SubIt P w it l xs st) (ne:e≠it) (nl:l≠e) (he:IsEnum s.heap e it i old) (h0:st i s.heap) (hx:xs[i]?=some x)
  (hQ:∀h',IsEnumOut h' e it ((i:Int)+1) x s.heap.objs.size->st (i+1) h'->IsPair h' s.heap.objs.size (.int i s.toks) x->h'.objs.size=s.heap.objs.size+1->
    (∀c o,c≠e->c≠it->s.heap.get? c=some o->h'.get? c=some o)->Q (.ref s.heap.objs.size) { s with heap:=h',toks:=s.toks+1 }) :
  wpAny (model P w) A (Builtin.«enumerate.__next__» ⟨[.ref e],[]⟩) (fun fin s'=>∃v,fin=.done (.ret v)∧Q v s') E s:=by
 obtain⟨hp,gn,dr,tk,os⟩:=s
 show wpAny _ _ (field (.ref e) 2>>=fun _=>_) _ _ _
 refine wpAny_bind (wpAny_field he rfl (x:=.ref it) rfl (show _ from ?_))
 refine wpAny_bind (S.item _ i _ x _ _ h0 hx fun g1 n1 e1=>(show _ from ?_))
 replace e1:Heap.SameBut it hp g1:=e1
 have c1:IsEnum g1 e it i old:=e1.extBut _ _ ne he
 show wpAny _ _ (field (.ref e) 3>>=fun _=>_) _ _ ⟨g1,gn,dr,tk,os⟩
 refine wpAny_bind (wpAny_field c1 rfl (x:=rawInt i) rfl (show _ from ?_))
 show wpAny _ _ (field (.ref e) 4>>=fun _=>_) _ _ ⟨g1,gn,dr,tk,os⟩
 refine wpAny_bind (wpAny_field c1 rfl (x:=.none) rfl (show _ from ?_))
 show wpAny _ _ (mkInt i>>=fun _=>_) _ _ ⟨g1,gn,dr,tk,os⟩
 refine wpAny_bind (wpAny_mkInt (show _ from ?_))
 show wpAny _ _ (setField (.ref e) 3 (rawInt ((i:Int)+1))>>=fun _=>_) _ _ ⟨g1,gn,dr,tk+1,os⟩
 refine wpAny_bind (wpAny_setField_rec c1 (by simp) fun g2 c2 e2=>?_)
 replace e2:Heap.SameBut e g1 g2:=e2
 replace c2:IsEnum g2 e it ((i:Int)+1) old:=c2
 show wpAny _ _ (setField (.ref e) 4 .none>>=fun _=>_) _ _ ⟨g2,gn,dr,tk+1,os⟩
 refine wpAny_bind (wpAny_setField_rec c2 (by simp) fun g3 c3 e3=>?_)
 replace e3:Heap.SameBut e g2 g3:=e3
 replace c3:IsEnum g3 e it ((i:Int)+1) old:=c3
 show wpAny _ _ (newTuple [.int i tk,x]>>=fun _=>_) _ _ ⟨g3,gn,dr,tk+1,os⟩
 refine wpAny_bind (wpAny_newTuple (show _ from ?_))
 have c4:IsEnum (g3.push { cls:=.type "tuple",data:=.seq #[.int i tk,x] }) e it ((i:Int)+1) old:=Heap.get?_push_of_some _ c3
 have sz:g3.objs.size=hp.objs.size:=by rw[e3.1,e2.1,e1.1]
 have el:e<hp.objs.size:=Heap.lt_size he
 have t4:IsPair (g3.push { cls:=.type "tuple",data:=.seq #[.int i tk,x] }) hp.objs.size (.int i tk) x:=by rw[←sz];exact Heap.get?_push_size _ rfl
 have z4:(g3.push { cls:=.type "tuple",data:=.seq #[.int i tk,x] }).objs.size=hp.objs.size+1:=by rw[Heap.size_push,sz]
 have k4:∀c o,c≠e->c≠it->hp.get? c=some o->(g3.push { cls:=.type "tuple",data:=.seq #[.int i tk,x] }).get? c=some o:=fun c o a1 a2 q=>Heap.get?_push_of_some _ (e3.extBut _ _ a1 (e2.extBut _ _ a1 (e1.extBut _ _ a2 q)))
 have n4:st (i+1) (g3.push { cls:=.type "tuple",data:=.seq #[.int i tk,x] }):=S.keep _ _ _ n1 (fun o q=>Heap.get?_push_of_some _ (e3.extBut _ _ ne.symm (e2.extBut _ _ ne.symm q))) fun o q=>Heap.get?_push_of_some _ (e3.extBut _ _ nl (e2.extBut _ _ nl q))
 revert c4 t4 z4 k4 n4
 generalize g3.push { cls:=.type "tuple",data:=.seq #[.int i tk,x] }=g4
 intro c4 t4 z4 k4 n4
 show wpAny _ _ (Builtin.SmallTypes.ownedTupleIsFree (.ref e)>>=fun _=>_) _ _ ⟨g4,gn,dr,tk+1,os⟩
 rw[sz]
 refine wpAny_bind ?_
 unfold Builtin.SmallTypes.ownedTupleIsFree
 refine wpAny_bind (wpAny_field c4 rfl (x:=.none) rfl (wpAny_pure (show _ from ?_)))
 simp only[if_true]
 refine wpAny_bind (wpAny_rule (show _ from ?_))
 refine wpAny_bind (wpAny_field c4 rfl (x:=old) rfl (show _ from ?_))
 refine wpAny_bind (wpAny_setField_rec c4 (by simp) fun g5 c5 e5=>?_)
 replace e5:Heap.SameBut e g4 g5:=e5
 replace c5:IsEnum g5 e it ((i:Int)+1) x:=c5
 show wpAny _ _ (Builtin.SmallTypes.ownedTupleHandOut (.ref e) (.ref hp.objs.size)>>=fun _=>_) _ _ ⟨g5,gn,dr,tk+1,os⟩
 refine wpAny_bind ?_
 unfold Builtin.SmallTypes.ownedTupleHandOut
 refine wpAny_bind (wpAny_setField_rec c5 (by simp) fun g6 c6 e6=>?_)
 replace e6:Heap.SameBut e g5 g6:=e6
 replace c6:IsEnumOut g6 e it ((i:Int)+1) x hp.objs.size:=c6
 refine wpAny_setField_rec c6 (by simp) fun g7 c7 e7=>?_
 replace e7:Heap.SameBut e g6 g7:=e7
 replace c7:IsEnumOut g7 e it ((i:Int)+1) x hp.objs.size:=c7
 have up:∀c o,c≠e->g4.get? c=some o->g7.get? c=some o:=fun c o a1 q=>e7.extBut _ _ a1 (e6.extBut _ _ a1 (e5.extBut _ _ a1 q))
 refine wpAny_bind (wpAny_letGo (wpAny_pure ⟨_,rfl,hQ g7 c7 ?_ (up _ _ (Nat.ne_of_gt el) t4) (by rw[e7.1,e6.1,e5.1,z4]) fun c o a1 a2 q=>up _ _ a1 (k4 _ _ a1 a2 q)⟩))
 exact S.keep _ _ _ n4 (fun o q=>up _ _ ne.symm q) fun o q=>up _ _ nl q
theorem xF {i:Nat}{Q:Option Value->Shared->Prop} (S:SubIt P w it l xs st) (ne:e≠it) (nl:l≠e) (he:IsEnum s.heap e it i old) (h0:st i s.heap) (hx:xs[i]?=some x)
  (hQ:∀h',IsEnumOut h' e it ((i:Int)+1) x s.heap.objs.size->st (i+1) h'->IsPair h' s.heap.objs.size (.int i s.toks) x->h'.objs.size=s.heap.objs.size+1->
    (∀c o,c≠e->c≠it->s.heap.get? c=some o->h'.get? c=some o)->Q (some (.ref s.heap.objs.size)) { s with heap:=h',toks:=s.toks+1 }):wpAny (model P w) A (pyNext (.ref e)) Q E s:=by
 have T:s.TypeIs (.ref e) "enumerate":=⟨_,he,rfl⟩
 unfold pyNext
 exact wpAny_bind (wpAny_attempt (wpAny_callSpecial?_slot (name:=Str.ofString "__next__") T F.slot_enumerate_next (wpAny_call_entry F.slot_enumerate_next T F.entry_enumerate_next (zH S ne nl he h0 hx fun h' a b c d k=>wpAny_pure (hQ h' a b c d k)) (F.args_enumerate_next_1 _))))
theorem xx{i:Nat}{Q:Option Value->Shared->Prop}(hh:A.handled=none)(S:SubIt P w it l xs st)(he:IsEnum s.heap e it i old)(h0:st i s.heap)(hx:xs[i]?=none)
  (hQ:∀h',Heap.ExtBut it s.heap h'->Q none { s with heap:=h' }):wpAny (model P w) A (pyNext (.ref e)) Q E s:=by
 have T:s.TypeIs (.ref e) "enumerate":=⟨_,he,rfl⟩
 unfold pyNext
 refine wpAny_bind (wpAny_attempt (wpAny_callSpecial?_slot (name:=Str.ofString "__next__") T F.slot_enumerate_next (wpAny_call_entry F.slot_enumerate_next T F.entry_enumerate_next (show _ from ?_) (F.args_enumerate_next_1 _))))
 show wpAny _ _ (field (.ref e) 2>>=fun _=>_) _ _ _
 refine wpAny_bind (wpAny_field he rfl (x:=.ref it) rfl (show _ from ?_))
 refine wpAny_bind (S.done _ i _ _ _ (show A.in1.handled=none from hh) h0 hx fun h' y e1 hy=>?_)
 obtain⟨o,ho,hc⟩:=hy
 exact wpAny_bind (wpAny_isInstance (T := "StopIteration") (b:=true) ⟨o,ho,hc⟩ isSubtype_stop (wpAny_pure (hQ _ e1)))
end
def Mr(K:PySem.W.Frag)(b:Bool)(l:Addr):It:=
 ⟨fun i H=>∃xs x,km b K H l xs∧xs[i]?=some x,
  fun i H v H'=>∃p,H p=none∧v=.ref p∧∀xs,km b K H l xs->∃x,xs[i]?=some x∧H'=upd H p (.tup [.int (i:Int),x]),
  fun i H=>∃xs,km b K H l xs∧xs[i]?=none⟩
theorem Dj {P:Program}{w:World}{K:PySem.W.Frag}{elts:List Expr}{x1}{tp:Pos}{b:Bool}{e it l:Addr} (ne:e≠it) (nl:l≠e) (ni:l≠it) :
  Turn P w K (.Tuple elts x1 tp) (Mr K b l) [e,it] e (fun i h=>(∃old,IsEnum h e it i old)∧dF b it l i h) where
 mem:=by simp
 obj:=fun i h st c hc=>by
  obtain⟨⟨old,he⟩,h1⟩:=st
  simp only[List.mem_cons,List.mem_nil_iff,or_false] at hc
  rcases hc with rfl | rfl
  ·exact⟨_,he,fun v q=>by cases q⟩
  ·exact h1.obj
 keep:=fun i h h' st k=>by
  obtain⟨⟨old,he⟩,h1⟩:=st
  exact⟨⟨old,k e (by simp) _ he⟩,h1.keep fun o q=>k it (by simp) o q⟩
 item:=by
  intro X hP hw hK hc i pins s σ H E I hf st hg
  subst hP hw hK
  obtain⟨⟨old,he⟩,h1⟩:=st
  obtain⟨xs,x,s1,hx⟩:=hg
  obtain⟨its1,r1,q1,_⟩:=I.seqS s1
  obtain⟨u1,e1,ru1⟩:=r1.get hx
  refine xF (jf b ni its1.toArray) ne nl he ⟨h1,q1⟩ (by simpa using e1) fun h' a1 a2 a3 a4 a5=>⟨_,rfl,wpAny_letOwnedTupleGo_enum a1 fun h2' he' hs'=>?_⟩
  have lt:e<s.heap.objs.size:=Heap.lt_size he
  have kk:∀c o,c∉[e,it]->s.heap.get? c=some o->h2'.get? c=some o:=fun c o hb q=>hs'.extBut _ _ (fun z=>hb (by simp[z])) (a5 c o (fun z=>hb (by simp[z])) (fun z=>hb (by simp[z])) q)
  have fresh:H s.heap.objs.size=none:=I.hok.fresh (Nat.le_refl _)
  have pr:IsPair h2' s.heap.objs.size (.int i s.toks) u1:=hs'.extBut _ _ (Nat.ne_of_gt lt) a3
  have nw:ObjOk X.prog X.w (upd H s.heap.objs.size (.tup [.int (i:Int),x])) h2' s.heap.objs.size (.tup [.int (i:Int),x]):=⟨by show 2≤sizeLine;decide,[.int i s.toks,u1],.cons ⟨_,rfl⟩ (.cons ru1 .nil),⟨_,pr,rfl,_,rfl⟩⟩
  have nfp:∀c∈[e,it],c≠s.heap.objs.size:=fun c hc z=>by
   obtain⟨o,ho⟩:∃o,s.heap.get? c=some o:=by
    simp only[List.mem_cons,List.mem_nil_iff,or_false] at hc
    rcases hc with rfl | rfl
    ·exact⟨_,he⟩
    ·obtain⟨o,q,_⟩:=h1.obj;exact⟨o,q⟩
   exact absurd (Heap.lt_size ho) (by rw[z];exact Nat.lt_irrefl _)
  refine⟨.ref s.heap.objs.size,upd H s.heap.objs.size (.tup [.int (i:Int),x]),?_,rfl,⟨_,fresh,rfl,fun xs' q1'=>⟨x,by rw[I.seqS_inj q1' s1];exact hx,rfl⟩⟩,⟨⟨_,he'⟩,(show dF b it l (i+1) h' from a2.1).keep fun o q=>hs'.extBut _ _ ne.symm q⟩,fun c hc=>by rw[upd_ne (nfp c hc)];exact (hf c hc).1⟩
  exact I.turnedLay (t':=s.toks+1) kk hf (Nat.le_refl _) nw
 done:=by
  intro X hP hw hK hc i pins s σ H E I hf st hg
  subst hP hw hK
  obtain⟨⟨old,he⟩,h1⟩:=st
  obtain⟨xs,s1,hend⟩:=hg
  obtain⟨its1,r1,q1,_⟩:=I.seqS s1
  refine xx (I.ok.hd hc) (jf b ni its1.toArray) he ⟨h1,q1⟩ (by simpa using r1.none_of hend) fun h' e1=>?_
  exact⟨rfl,I.turnedL (t':=s.toks) (fun c o hb q=>e1 _ _ (fun z=>hb (by simp[z])) q) hf (fun c hc=>(hf c hc).2.1)⟩
 self:=fun _ _ _ _ _ st h=>by obtain⟨⟨old,he⟩,_⟩:=st;exact wpAny_pyIter_enum he h
theorem zq:bootBuiltins "list"=some (.type "list"):=by decide +kernel
theorem vm:∀ (vs:List Value) (k:Nat),(∀ (j:Nat) v,vs[j]?=some v->∃ t,v=.int ((k + j:Nat):Int) t)->Vals ((List.range' k vs.length).map fun i:Nat=>V.int (i:Int)) vs
 |[],k,_=>.nil
 | v::vs,k,h=>by
   have h0:=h 0 v rfl
   have ih:=vm vs (k+1) fun j u e=>by
    have:=h (j+1) u (by simpa using e)
    rw[show k+1+j=k+(j+1) by lia];exact this
   rw[List.length_cons,List.range'_succ,List.map_cons]
   exact .cons h0 ih
section
variable{X:Cx}
def Mj(ta:TA):TE:=fun σ H Q=>ta σ H fun vs H1=>∃j:Int,vs=[.int j]∧j≤2^20∧-(2^62)≤j∧∀l,H1 l=none->Q (.ref l) (upd H1 l (.lst ((List.range j.toNat).map fun i:Nat=>V.int (i:Int))))
theorem Cr (hc:X.calm=true) (hgL:Gl X "list") (hmL:X.mg "list"=none) (hg:Gl X "range") (hm:X.mg "range"=none) (ha:PA X [a] ta) (hs:notStar a=true:=by rfl) :
  PE X (.Call (.Name "list" p1) [.Call (.Name "range" p2) [a] [] pos2] [] pos1) (Mj ta):=by
 intro pins s σ H Q I h
 have hst:starEach [Expr.Call (.Name "range" p2) [a] [] pos2] X.env=(false,eval (.Call (.Name "range" p2) [a] [] pos2) X.env)::starEach [] X.env:=bF rfl
 refine Call_ (ld_blt I hgL hmL zq (PyProof.Rows.callWith_type1 ?_ hst rfl))
 rw[hst]
 show wpAny _ _ (spliced ((false,eval (.Call (.Name "range" p2) [a] [] pos2) X.env)::[])) _ _ s
 refine Calls.spliced_cons ?_
 refine Call_ (ld_blt I hg hm boot_range (PyProof.Rows.callWith_type1 (thn (ha pos2 pins s σ H _ I h) fun us s1 ⟨vs,H1,I1,r1,q1⟩=>?_) (bF hs) rfl))
 obtain⟨j,e,q1,q2,q⟩:=q1
 subst e
 cases r1 with
 | cons r rr=>
   cases rr
   obtain⟨t,rfl⟩:=r
   refine call_range_1 ?_
   refine Calls.spliced_nil ?_
   have rs:Builtin.Range.rangeSize 0 j 1=((j.toNat:Nat):Int):=by rw[rangeSize_one];split<;>lia
   refine call_list_range (n:=j.toNat) (I1.ok.hd hc) (IsRange.new ..) (small_one (by lia) (by lia) q2 (by lia)) rs (by lia) fun h' tk acc c k1 k2 k3=>?_
   have vl:Vals ((List.range j.toNat).map fun i:Nat=>V.int (i:Int)) acc.toList:=by
    have:=vm acc.toList 0 fun i v e=>by
     obtain⟨t,rfl⟩:=k3.2 i v (by simpa using e)
     exact⟨t,by congr 1;lia⟩
    rw[List.range_eq_range']
    rw[show acc.toList.length=j.toNat by simpa using k3.1] at this
    exact this
   refine⟨.ref _,upd H1 _ (.lst ((List.range j.toNat).map fun i:Nat=>V.int (i:Int))),?_,rfl,q _ (I1.hok.fresh ?_)⟩
   ·refine I1.turnedLay (ch:=[]) (t':=tk) (fun b o _ e=>k1 b o (Heap.get?_push_of_some _ e)) (fun b hb=>nomatch hb) ?_ ⟨?_,acc.toList,c,vl,k2⟩
    ·rw[Heap.size_push];lia
    ·rw[List.length_map,List.length_range];show _≤2^24;lia
   ·rw[Heap.size_push];lia
end
end L2
namespace L2
open PySem PySem.Spec PyProof.Rows
open PySem.AutoSeq1 (wpAny_loadPart')
open PySem PySem.Spec PyProof.Rows
end L2
namespace L2
open PySem PySem.Spec PyProof.Rows
end L2
namespace LS
open PySem
end LS
namespace LS
open PySem PySem.Spec PyProof.Rows
end LS
namespace L2
open PySem PySem.Spec PyProof.Rows LS
end L2
namespace LS
open PySem PySem.Spec PyProof.Rows
end LS
namespace L2
open PySem PySem.Spec PyProof.Rows LS
end L2
namespace L2
open PySem PySem.Spec PyProof.Rows
section
variable{X:Cx}{CX:CXT}{k:Nat}{f C:Addr}{fd:FuncData}{ps:List Str}{sp:Sp}{E:XK}
theorem zA(D:MethC X.prog X.w X.K X.mg X.base j C "__repr__" ps sp)(hu:X.A.units+64<cLine)(hr:Room (j+1) X.A)(hx:Passes (bM X.prog X.w) X E) :
  CallR X (.builtin "repr") (fun vs H Q=>∃x dx fs,vs=[.ref x]∧H x=some (.ins C dx fs)∧sp [.ref x] H (fun v H2=>∃n:Str,v=.str n∧Q (.str n) H2) E):=by
 intro pins s σ H vs us Q I r h
 obtain⟨x,dx,fs,rfl,hx',q⟩:=h
 obtain⟨f,fd,F,b,kp,a,n⟩:=D.ex
 obtain⟨u,rfl,ru⟩:=vals1 r
 cases ru
 obtain⟨mA,O,_⟩:=ins_get I.hok hx'
 obtain⟨od,IA,_⟩:=O.look
 refine Calls.call_function_entry PySem.F.kind_repr PySem.F.plain_repr PySem.F.entry_repr (PySem.F.args_repr1 _) ?_
 unfold Builtin.«repr»
 refine wpAny_bind (m:=oneArg "repr" _) (wpAny_pure ?_)
 refine wpAny_bind (wpAny_cRoomFor (by show X.A.units+1<cLine;lia) ?_)
 refine wpAny_bind (wpAny_bind (IA.type.here ((PySem.W.looks_findIn I.kIn a).here ?_)))
 show wpAny _ _ (if (some (Value.ref f)).isNone=true then _ else _) _ _ _
 rw[if_neg (by simp)]
 refine wpAny_bind (m:=callSpecialIfBound? (.ref x) (Str.ofString "__repr__") _) (PySem.W.ifBound_K I.kIn IA a n (wpAny_mono (yX (vs:=[.ref x]) F hr.in1 b hx I (.cons rfl .nil) q) (fun w' s' hw=>?_) fun _ _ y=>y))
 obtain⟨v,H2,I2,rv,m,rfl,qq⟩:=hw
 obtain⟨t,rfl⟩:=rv
 refine wpAny_bind (wpAny_isInstance (typeIs_str _ _ _) isSubtype_str_str ?_)
 first
  |exact wpAny_pure ⟨_,rfl,.str m,H2,I2,⟨_,rfl⟩,qq⟩
  |(rw[if_pos rfl];exact wpAny_pure ⟨_,rfl,.str m,H2,I2,⟨_,rfl⟩,qq⟩)
theorem TyOf.looks (I:Inv X pins σ H s) (rx:RelV x u) (ty:TyOf X.K H x (.type T)):PySem.W.Looks (model X.prog X.w) s.heap (typeOf u) (.type T):=by
 cases ty with
 |non=>cases (show u=Value.none from rx);exact PySem.W.kitx_none.ty _ _ I.kIn True.intro
 |bl y=>cases (show u=Value.bool y from rx);exact PySem.W.kitx_bool.ty _ _ I.kIn True.intro
 |int i=>obtain⟨t,q⟩:=(show ∃t,u=Value.int i t from rx);cases q;exact PySem.W.kitx_int.ty _ _ I.kIn True.intro
 |str y=>obtain⟨t,q⟩:=(show ∃t,u=Value.str y t from rx);cases q;exact PySem.W.kitx_str.ty _ _ I.kIn True.intro
 |flt y=>obtain⟨t,q⟩:=(show ∃t,u=Value.float y t from rx);cases q;exact PySem.W.kitx_float.ty _ _ I.kIn True.intro
 | @lst a xs ea=>
   cases (show u=Value.ref a from rx)
   obtain⟨_,_,n,_,h1⟩:=(show ObjOk X.prog X.w H s.heap a (.lst xs) from I.hok a _ ea)
   exact PySem.W.kitx_list.ty _ _ I.kIn ⟨_,h1,rfl⟩
 | @frz a ob xs ea=>
   cases (show u=Value.ref a from rx)
   obtain⟨_,_,_,n,_,h1⟩:=(show ObjOk X.prog X.w H s.heap a (.frz ob (.lst xs)) from I.hok a _ ea)
   exact PySem.W.kitx_list.ty _ _ I.kIn ⟨_,h1,rfl⟩
 | @tup a xs ea=>
   cases (show u=Value.ref a from rx)
   obtain⟨_,_,_,p⟩:=(show ObjOk X.prog X.w H s.heap a (.tup xs) from I.hok a _ ea)
   obtain⟨o,h1,h2,_⟩:=p
   exact PySem.W.kitx_tuple.ty _ _ I.kIn ⟨o,h1,h2⟩
 | @dK a kvs ea=>
   cases (show u=Value.ref a from rx)
   obtain⟨_,_,vs,_,p⟩:=(show ObjOk X.prog X.w H s.heap a (.dK kvs) from I.hok a _ ea)
   obtain⟨o,es,ep,h1,h2,_⟩:=p
   exact PySem.W.kitx_dict.ty _ _ I.kIn ⟨o,h1,h2.1⟩
 | @dT a kvs ea=>
   cases (show u=Value.ref a from rx)
   obtain⟨_,_,xs,_,o,es,ep,h1,h2,_⟩:=(show ObjOk X.prog X.w H s.heap a (.dT kvs) from I.hok a _ ea)
   exact PySem.W.kitx_dict.ty _ _ I.kIn ⟨o,h1,h2.1⟩
def zf(K:PySem.W.Frag)(H:Hp)(C:Addr)(y:V):Prop:=(∃b dx fs,y=.ref b∧H b=some (.ins C dx fs))∨∃T,TyOf K H y (.type T)∧PySem.W.subIn K (.type T) (.ref C)=some false
theorem zf.to(I:Inv X pins σ H s)(ry:RelV y u)(h:zf X.K H C y):∃t,PySem.W.Looks (model X.prog X.w) s.heap (typeOf u) t∧(t=.ref C∨(t≠.ref C∧PySem.W.Looks (model X.prog X.w) s.heap (isSubtype t (.ref C)) false)):=by
 rcases h with ⟨b,dx,fs,rfl,hb⟩ | ⟨T,ty,sb⟩
 ·cases ry
  obtain⟨mA,O,_⟩:=ins_get I.hok hb
  obtain⟨od,IA,_⟩:=O.look
  exact⟨_,IA.type,.inl rfl⟩
 ·exact⟨_,ty.looks I ry,.inr ⟨(fun z=>by cases z),PySem.W.looks_subIn I.kIn sb⟩⟩
theorem JV(D:MethC X.prog X.w X.K X.mg X.base j C "__eq__" ps sp)(hu:X.A.units+64<cLine)(hr:Room j X.A)(hx:Passes (bM X.prog X.w) X E) :
  OpR X (compareOp .Eq) (fun x y H Q=>∃a dx fs,x=.ref a∧H a=some (.ins C dx fs)∧zf X.K H C y∧sp [.ref a,y] H (fun v H2=>∃b:Bool,v=.bl b∧Q (.bl b) H2) E):=by
 intro pins s σ H x y v u Q I rx ry h
 obtain⟨a,dx,fs,rfl,hx',rg,q⟩:=h
 obtain⟨f,fd,F,b,kp,fi,n⟩:=D.ex
 cases rx
 obtain⟨mA,O,_⟩:=ins_get I.hok hx'
 obtain⟨od,IA,_⟩:=O.look
 obtain⟨t,lt,ht⟩:=rg.to I ry
 show wpAny _ _ (richCompare .Eq (.ref a) u) _ _ _
 unfold richCompare
 simp only[oneThing_ref]
 refine wpAny_holding ?_
 refine wpAny_bind (wpAny_cRoomFor (by lia) ?_)
 rw[cmpInfo_Eq]
 dsimp only
 refine wpAny_bind (IA.type.here ?_)
 refine wpAny_bind (lt.here ?_)
 have fin:wpAny (model X.prog X.w) X.A (tryCompare (.ref a) "__eq__" u) (fun o s'=>∃v,o=some v∧EP X pins σ Q v s') X.xe s:=by
  unfold tryCompare
  refine wpAny_bind (PySem.W.ifBound_K I.kIn IA fi n (wpAny_mono (run_fn (vs:=[.ref a,y]) (dvs:=[]) (ds:=[]) F hr b .nil hx I (.cons rfl (.cons ry .nil)) q) (fun w' s' hw=>?_) fun _ _ y=>y))
  obtain⟨v,H2,I2,rv,m,rfl,qq⟩:=hw
  cases (show w'=Value.bool m from rv)
  exact wpAny_pure ⟨_,rfl,.bl m,H2,I2,rfl,qq⟩
 rcases ht with rfl | ⟨ne,sb⟩
 ·rw[show (Value.ref C != Value.ref C)=false from by simp]
  simp only[Bool.false_eq_true,if_false]
  refine wpAny_bind (wpAny_pure ?_)
  simp only[Bool.false_eq_true,if_false]
  refine wpAny_bind (wpAny_mono fin (fun o s' ho=>?_) fun _ _ e=>e)
  obtain⟨v,rfl,hv⟩:=ho
  exact wpAny_pure hv
 ·rw[show (Value.ref C != t)=true from by simpa using Ne.symm ne]
  simp only[if_true]
  refine wpAny_bind (sb.here ?_)
  simp only[Bool.false_eq_true,if_false]
  refine wpAny_bind (wpAny_mono fin (fun o s' ho=>?_) fun _ _ e=>e)
  obtain⟨v,rfl,hv⟩:=ho
  exact wpAny_pure hv
theorem Bh(hc:PySem.W.kitOne X.K (.ref C) (.ref C)=some true)(hn:PySem.W.findIn X.K (.ref C) "__class__"=some (some (.builtin "object.__class__")))(hs:PySem.W.specialIn X.K (.builtin "object.__class__") "__get__"=some (some (.builtin "getset_descriptor.__get__")))(htk:PySem.W.takesIn X.K (.builtin "object.__class__")=some true)
  (hm:PySem.W.mroIn X.K C (.type "object")=some true) (cl:Cls X.K C) :
  CallR X (.builtin "isinstance") (fun xs H Q=>∃x,xs=[x,.ref C]∧((∃a dx fs,x=.ref a∧H a=some (.ins C dx fs)∧Q (.bl true) H)∨∃T,TyOf X.K H x (.type T)∧PySem.W.kitOne X.K (.type T) (.ref C)=some false∧Q (.bl false) H)):=by
 intro pins s σ H xs us Q I r h
 obtain⟨x,rfl,h⟩:=h
 obtain⟨u,w',rfl,r1,r2⟩:=vals2 r
 cases r2
 rcases h with ⟨a,dx,fs,rfl,ha,q⟩ | ⟨T,ty,e,q⟩
 ·exact isinst_ok I r1 (.ins ha cl hn hs htk hm) hc fun tk=>⟨.bl true,H,I.tok _,rfl,q⟩
 ·exact isinst_ok I r1 ty e fun tk=>⟨.bl false,H,I.tok _,rfl,q⟩
end
end L2
namespace L2
open PySem PySem.Spec PyProof.Rows LS
end L2
namespace L2
open PySem PySem.Spec PyProof.Rows
theorem sV{P:Program}{w:World}(x:Addr):MeetsIn P w (Builtin.«bool.__new__» ⟨[.type "bool",.ref x],[]⟩)
  (fun A R s=>wpAny (model P w) A.in1 (truthy (.ref x)) (fun b s'=>R (.ok (.ret (.bool b))) s') (fun e s'=>R (.error e) s') s):=fun A R s h=>by
 unfold Builtin.«bool.__new__»
 have f1:=F.conv_sub_bool
 obtain⟨hp,g,d,tk,os⟩:=s
 repeat (any_goals (first | assumption | (refine wpAny_bind (wpAny_mono h (fun b s' hb=>?_) fun _ _ z=>z)) | wp_step))
 all_goals first | exact⟨_,rfl,hb⟩ | exact hb | (trace_state;skip)
section
variable{X:Cx}{CX:CXT}{k:Nat}{f C:Addr}{fd:FuncData}{ps:List Str}{sp:Sp}{E:XK}
theorem Hx {B:Around}{pins:List (Addr×Obj)}{σ:St}{H:Hp}{s:Shared}{Q:VK}{us:List Value}{vs:List V} (F:FnOk X.prog X.w X.K X.mg X.base CX k f fd ps sp) (hB:B.frames=some X.stack) (hr:Room k B) (hb:Binds X.K fd ps []) (hx:Passes CX X E)
  (I:Inv X pins σ H s) (r:Vals vs us) (h:sp vs H Q E):wpAny (model X.prog X.w) B (call (.ref f) us) (EP X pins σ Q) X.xe s:=by
 have hl:(us++[]).length=ps.length:=by rw[List.append_nil,←r.length];exact F.len _ _ _ _ h
 have hl':us.length=ps.length:=by rw[List.append_nil] at hl;exact hl
 have bb:=hb s us I.kIn hl
 rw[List.append_nil] at bb
 refine wpAny_call (codeAny_mono (F.run B X.stack s H ⟨us,[]⟩ us vs Q E hr ⟨hB,I.ok.mod,I.bs,Nat.le_trans I.ok.bsz I.sz,I.stack,I.stkFree,I.hok,I.bare⟩ bb r h) fun r s' hq=>?_)
 cases r with
 |error e=>exact hx pins σ H s e s' I hq
 |ok fl=>
   cases fl with
   |ret u=>exact I.after hq
   |next=>exact False.elim hq
   |brk=>exact False.elim hq
   |cont=>exact False.elim hq
theorem zu{j:Nat}(D:MethC X.prog X.w X.K X.mg X.base j C "__len__" ps sp)(nb:PySem.W.findIn X.K (.ref C) "__bool__"=some none)(hr:Room (j+3) X.A)(hx:Passes (bM X.prog X.w) X E) :
  CallR X (.type "bool") (fun vs H Q=>∃x dx fs,vs=[.ref x]∧H x=some (.ins C dx fs)∧sp [.ref x] H (fun v H2=>∃n:Int,v=.int n∧(0≤n∧n<2^63)∧Q (.bl (n != 0)) H2) E):=by
 intro pins s σ H vs us Q I r h
 obtain⟨x,dx,fs,rfl,hx',q⟩:=h
 obtain⟨f,fd,F,b,kp,a,n⟩:=D.ex
 obtain⟨u,rfl,ru⟩:=vals1 r
 cases ru
 obtain⟨mA,O,_⟩:=ins_get I.hok hx'
 obtain⟨od,IA,_⟩:=O.look
 refine callType_newIn PySem.F.called_bool PySem.F.newNe_bool (PySem.F.typeCall_bool_1 _) (PySem.F.newCall_bool_1 _) (fun obj=>PySem.F.args_object_init_2 obj _) PySem.F.entry_bool_new (sV x) ?_
 unfold truthy
 show wpAny _ _ (callSpecial? (.ref x) (Str.ofString "__bool__")>>=_) _ _ s
 refine wpAny_bind (wpAny_bind (wpAny_bind (IA.type.here ((PySem.W.looks_findIn I.kIn nb).here (wpAny_pure ?_)))))
 show wpAny _ _ (specialOf (.ref x) (Str.ofString "__len__")>>=_) _ _ s
 refine wpAny_bind (wpAny_bind (IA.type.here ((PySem.W.looks_findIn I.kIn a).here ?_)))
 show wpAny _ _ (if (some (Value.ref f)).isNone=true then _ else _) _ _ _
 rw[if_neg (by simp)]
 refine wpAny_bind (wpAny_runValue (codeAny_builtin PySem.entry_len ?_))
 rw[Around.under_plainId PySem.plain_len _]
 unfold Builtin.«len»
 refine wpAny_bind (m:=oneArg "len" _) (wpAny_pure ?_)
 refine wpAny_bind (m:=callSpecial? (.ref x) (Str.ofString "__len__")) (PySem.W.special_fn I.kIn IA a (beq_iff_eq.mp n) (wpAny_mono (Hx (vs:=[.ref x]) F (show X.A.in1.in1.in1.frames=some X.stack from I.ok.frames) hr.in1.in1.in1 b hx I (.cons rfl .nil) q) (fun w' s' hw=>?_) fun _ _ y=>y))
 obtain⟨v,H2,I2,rv,m,rfl,⟨h0,h1⟩,qq⟩:=hw
 obtain⟨t,rfl⟩:=rv
 refine wpAny_bind (wpAny_holding (wpAny_pure ?_))
 refine wpAny_bind (wpAny_letGo ?_)
 show wpAny _ _ (if m<0 then _ else _) _ _ _
 rw[if_neg (by omega)]
 show wpAny _ _ (if m ≥ 2^63 then _ else _) _ _ _
 rw[if_neg (by omega)]
 exact wpAny_bind (wpAny_mkInt (wpAny_pure (wpAny_pure ⟨PySem.typeIs_bool _ _,.bl (m != 0),H2,I2.tok _,rfl,qq⟩)))
end
theorem zm (l:List Value) (h:TriplesOk l) (q:codeAmong pos (l++[rawInt a,rawInt b,c])=some cv):codeAmong pos l=some cv∨cv=c:=by
 fun_induction TriplesOk l with
 |case1=>
   simp only[List.nil_append,codeAmong,rawInt] at q
   split at q
   ·exact .inr (Option.some.inj q).symm
   ·cases q
 |case2 a' t b' u x rest ih=>
   simp only[List.cons_append,codeAmong] at q ⊢
   split at q
   ·rename_i hc;rw[if_pos hc];exact .inl q
   ·rename_i hc;rw[if_neg hc];exact ih h q
 |case3 l h1 h2=>exact h.elim
theorem RecAt.mono(r:RecAt H v)(f:∀b o,H b=some (.frz o (.own b))->H' b=some (.frz o (.own b))):RecAt H' v:=
 let ⟨c,o,fs,q,t,g1,g2,g3⟩:=r;⟨c,o,fs,q,t,g1,f c o g2,g3⟩
theorem RecAt.rec_(r:RecAt H v)(ok:HOk P w H h):∃q,h.CodeRec v q:=by
 obtain⟨c,o,fs,q,t,g1,g2,g3,g4⟩:=r
 exact⟨q,c,o,fs,t,g1,(ok c _ g2).1,g3,g4⟩
abbrev sS(qual:Str)(params:Arguments)(body:Expr)(scope:Scope)(cl:List (Str×Addr))(pm cv ctv:Value):Obj:=
 { cls:=.type "function",data:=.func (PySem.W.kla_fn "<lambda>" qual params body scope cl pm cv ctv) }
def o6(H:Hp)(g:Addr)(params:Arguments)(body:Expr)(scope:Scope)(cl:List (Str×Addr)):Prop:=
 ∃qual pm cv ctv,H g=some (.frz (sS qual params body scope cl pm cv ctv) (.own g))∧RecAt H cv
theorem o6.mono(r:o6 H g params body scope cl)(f:∀b o,H b=some (.frz o (.own b))->H' b=some (.frz o (.own b))):o6 H' g params body scope cl:=
 let ⟨qual,pm,cv,ctv,g1,g2⟩:=r;⟨qual,pm,cv,ctv,f g _ g1,g2.mono f⟩
def Kz(P:Addr)(params:Arguments)(body:Expr)(scope:Scope)(cl:List (Str×Addr)):TE:=fun _ H Q=>
 (∃ps,H P=some (.tbl ps))∧∀g H1,H g=none->Same H H1->o6 H1 g params body scope cl->Q (.ref g) H1
theorem J5 (hcd:X.env.code=.ref c) (C:PySem.W.CodeHd X.base c P) (hP:mainGlobals≠P) (B:X.base.BuiltinsAt X.mg P)
  (hcl:closureFor scope X.env=pure cl) (hdef:defaultsOf params X.env=([],[]):=by rfl):PE X (.Lambda params body scope pos) (Kz P params body scope cl):=by
 intro pins s σ H Q I h
 obtain⟨⟨ps0,hT⟩,q⟩:=h
 obtain⟨ps,hP',tr,rc⟩:=I.hok P _ hT
 refine PySem.W.kla_eval hdef ?_
 have hg:s.heap.Ns mainGlobals X.mg:=I.ok.mod.glob.keeps I.bk
 have hb:s.heap.BuiltinsAt X.mg P:=let ⟨bm,o,a1,a2,a3,a4,a5,r⟩:=B;⟨bm,o,a1,a2,a3,a4,I.bk _ _ a5,r⟩
 cases hq:codeAmong pos ps.toList with
 | none=>
   refine PySem.W.kla_makeFunction hcl I.ok.glob hg hcd (C.keeps I.bk) hP' tr hq hP hb fun c' ctv h' tk hx hge hlt hrec htb=>?_
   obtain⟨c2,oc,vs,t,e2,hoc,hd,hv⟩:=hrec
   cases e2
   have fc:H c'=none:=I.hok.fresh hge
   have fg:H h'.objs.size=none:=I.hok.fresh (Nat.le_trans hge (Nat.le_of_lt hlt))
   have ncg:c'≠h'.objs.size:=Nat.ne_of_lt hlt
   let fo:Obj:=sS (X.env.qual++"<lambda>") params body scope cl ((X.mg "__name__").getD .none) (.ref c') ctv
   let H1:Hp:=upd (upd H c' (.frz oc (.own c'))) h'.objs.size (.frz fo (.own h'.objs.size))
   have S:Same H H1:=fun b o e=>by
    show upd (upd H c' _) h'.objs.size _ b=_
    rw[upd_ne (ne_of_none e fg),upd_ne (ne_of_none e fc)];exact e
   have kp:∀b o,b≠P->s.heap.get? b=some o->(h'.push fo).get? b=some o:=fun b o hb e=>Heap.get?_push_of_some _ (hx b o hb e)
   have nP:∀b,H b=none->b≠P:=fun b n z=>by rw[z,hT] at n;cases n
   have g1:H1 h'.objs.size=some (.frz fo (.own h'.objs.size)):=upd_same
   have c1:H1 c'=some (.frz oc (.own c')):=by
    show upd (upd H c' _) h'.objs.size _ c'=_
    rw[upd_ne ncg];exact upd_same
   have r1:RecAt H1 (.ref c'):=⟨c',oc,vs,_,t,rfl,c1,hd,hv⟩
   have un:Un X.fs [] H H1 s.heap (h'.push fo):=by
    refine⟨fun b o e n _ _=>kp b o (nP b n) e,fun b o e n _ _=>⟨o.slots,kp b o (nP b n) e⟩,fun b o e n _=>?_,fun b o e _=>?_,fun b xs e=>S _ _ e,fun b o u e=>S _ _ e,fun b ps e=>⟨#[],by rw[S _ _ e];simp⟩⟩
    ·have l:=Heap.lt_size e
     show upd (upd H c' _) h'.objs.size _ b=_
     rw[upd_ne (Nat.ne_of_lt (Nat.lt_trans (Nat.lt_of_lt_of_le l hge) hlt)),upd_ne (Nat.ne_of_lt (Nat.lt_of_lt_of_le l hge))];exact n
    ·by_cases hb':b=P
     ·subst hb';exact⟨_,Heap.get?_push_of_some _ htb⟩
     ·exact⟨o,kp b o hb' e⟩
   have hok:HOk X.prog X.w H1 (h'.push fo):=fun b u e=>by
    by_cases bg:b=h'.objs.size
    ·subst bg
     rw[g1] at e;cases e
     exact⟨Heap.get?_push_size _ rfl,_,Heap.get?_push_size _ rfl⟩
    by_cases bc:b=c'
    ·subst bc
     rw[c1] at e;cases e
     exact⟨Heap.get?_push_of_some _ hoc,_,Heap.get?_push_of_some _ hoc⟩
    have e':H b=some u:=by
     have e:upd (upd H c' _) h'.objs.size _ b=some u:=e
     rw[upd_ne bg,upd_ne bc] at e;exact e
    by_cases bP:b=P
    ·subst bP
     rw[hT] at e';cases e'
     refine⟨_,Heap.get?_push_of_some _ htb,?_,fun pos' cv' z=>?_⟩
     ·rw[Array.toList_append];exact TriplesOk_snoc _ _ _ _ tr
     ·rw[Array.toList_append] at z
      rcases zm _ tr z with z | z
      ·exact (rc _ _ z).mono fun b o e=>S _ _ e
      ·rw[z];exact r1
    ·refine (I.hok b u e').stay (fun d v hd' q'=>kp d v ?_ q') (fun d z=>S _ _ z) (fun d xs z=>S _ _ z) fun d o z=>S _ _ z
     rcases hd' with z | z
     ·rw[z];exact bP
     ·intro y;rw[y,hT] at z;cases z
   exact⟨.ref h'.objs.size,H1,I.un (t':=tk) un hok,rfl,q _ H1 fg S ⟨_,_,_,_,g1,r1⟩⟩
 |some cv=>
   have rcv:=rc _ _ hq
   refine PySem.W.kla_makeFunctionHit hcl I.ok.glob hg hcd (C.keeps I.bk) hP' tr hq hb fun ctv h' tk hk hsz=>?_
   have fg:H h'.objs.size=none:=I.hok.fresh hsz
   have S:Same H (upd H h'.objs.size (.frz (sS (X.env.qual++"<lambda>") params body scope cl ((X.mg "__name__").getD .none) cv ctv) (.own h'.objs.size))):=same_new fg _
   refine⟨.ref h'.objs.size,_,I.laid (t':=tk) (o:=.frz (sS (X.env.qual++"<lambda>") params body scope cl ((X.mg "__name__").getD .none) cv ctv) (.own h'.objs.size)) (fun b u e=>Heap.get?_push_of_some _ (hk b u e)) hsz ⟨Heap.get?_push_size _ rfl,_,Heap.get?_push_size _ rfl⟩,rfl,q _ _ fg S ⟨_,_,_,_,upd_same,rcv.mono fun b o e=>S _ _ e⟩⟩
def m5(P:Program)(w:World)(K:PySem.W.Frag)(mg:Str->Option Value)(base:Heap)(N:List Str)(qual:Str)(scope:Scope)(g:Addr)(cd:Value)(cl:List (Str×Addr))(A:Around)(outer:List Env)(s:Shared)(H:Hp)(E:XK):Cx where
 prog:=P
 w:=w
 K:=K
 mg:=mg
 base:=base
 A:=A.deeper (PySem.W.envX qual scope s.heap.objs.size g cd cl)
 N:=N
 s₀:=s
 H₀:=H
 env:=PySem.W.envX qual scope s.heap.objs.size g cd cl
 outer:=outer
 stack:=PySem.W.envX qual scope s.heap.objs.size g cd cl::outer
 ex:=[]
 calm:=true
 fn:=fun _=>false
 pn:=[]
 xe:=fun e s'=>wpAny (model P w) (A.deeper (PySem.W.envX qual scope s.heap.objs.size g cd cl)) (leaving (PySem.W.envX qual scope s.heap.objs.size g cd cl) e) (fun _ s''=>bM P w outer H s E e s'') (fun e' s''=>bM P w outer H s E e' s'') s'
structure LamOk(scope:Scope)(cl:List (Str×Addr))(fr:List Str):Prop where
 kind:scope.kind=.function
 co:scope.isCoroutine=false
 gen:scope.isGenerator=false
 cell:∀y∈scope.names,y.2≠.cell
 nd:fr.Nodup
 has:∀y,(scope.names.lookup y=some .cell∨scope.names.lookup y=some .free)->∃c,cl.lookup y=some c
 fre:∀y∈fr,scope.names.lookup y=some .free
structure CellsAt(cl:List (Str×Addr))(fr:List Str)(σ:St)(H:Hp)(h:Heap):Prop where
 inj:∀x y c,cl.lookup x=some c->cl.lookup y=some c->x=y
 cell:∀x c,cl.lookup x=some c->∃v,h.IsCell c v
 free:∀x c,cl.lookup x=some c->H c=none
 val:∀(i:Nat) x v,fr[i]?=some x->σ[i]?=some (some v)->∃u c,RelV v u∧cl.lookup x=some c∧h.IsCell c (some u)
 len:σ.length=fr.length
section
variable{P:Program}{w:World}{K:PySem.W.Frag}{mg:Str->Option Value}{base:Heap}{A:Around}{outer:List Env}{s:Shared}{H:Hp}{E:XK}{Q:VK}{k:Nat}{g:Addr}{params:Arguments}{body:Expr}{scope:Scope}{cl:List (Str×Addr)}{fr:List Str}{σ:St}
theorem GX(T:LamOk scope cl fr)(e0:Env0 P w K mg base A outer s H)(hd:A.handled=none)(C:CellsAt cl fr σ H s.heap)(hns:h1.Ns s.heap.objs.size m)(hk:∀b o,s.heap.get? b=some o->h1.get? b=some o) :
  Inv (m5 P w K mg base fr qual scope g cd cl A outer s H E) [] σ H { s with heap:=h1,toks:=tk }:=by
 have noA:∀b:Addr,b∉(m5 P w K mg base fr qual scope g cd cl A outer s H E).ex:=fun b z=>absurd (show b∈([]:List Addr) from z) (by simp)
 refine⟨⟨e0.mod,T.kind,rfl,rfl,Nat.le_refl _,C.inj,T.has,fun y c z _=>absurd (show false=true from z) Bool.false_ne_true,fun _=>hd,Around.frames_deeper e0.frames,.inr ⟨rfl,rfl⟩,fun b z=>absurd z (noA b),e0.bs,e0.bsz,fun b _ _=>noA b,fun b z=>absurd z (noA b),e0.funs,e0.frf⟩,
  rfl,e0.bare,Un.kept hk,⟨m,hns,fun i y v h1 h2 h3=>?_⟩,fun y c h=>?_,e0.hok.fresh (Nat.le_refl _),fun y c h=>C.free y c h,fun p hp=>absurd (show p∈([]:List (Addr×Obj)) from hp) (by simp),e0.hok.kept hk,C.len⟩
 ·obtain⟨u,c,r,e,z⟩:=C.val i y v h1 h2
  exact⟨u,r,.inr ⟨.inr (T.fre y (List.mem_of_getElem? h1)),c,e,z.keeps hk⟩⟩
 ·obtain⟨v,z⟩:=C.cell y c h
  exact⟨v,z.keeps hk⟩
theorem Hy(T:LamOk scope cl fr)(e0:Env0 P w K mg base A outer s H)(hr:Room (k+1) A)(L:o6 H g params body scope cl)(C:CellsAt cl fr σ H s.heap)
  (hbind:∀qual pm cv ctv,bindArgs (PySem.W.kla_fn "<lambda>" qual params body scope cl pm cv ctv) ⟨[],[]⟩=pure [])
  (hbody:∀qual cd,Room k (A.deeper (PySem.W.envX qual scope s.heap.objs.size g cd cl))->∃t,PE (m5 P w K mg base fr qual scope g cd cl A outer s H E) body t∧t σ H Q) :
  codeAny (model P w) A (.call (.ref g) ⟨[],[]⟩) (CR (bM P w) outer P w H s Q E) s:=by
 obtain⟨qual,pm,cv,ctv,hg,rc⟩:=L
 obtain⟨q,hcd⟩:=rc.rec_ e0.hok
 obtain⟨ho,_⟩:=e0.hok g _ hg
 have lim:s.heap.NoLimit:=e0.mod.nolimit.keeps fun b o e=>(e0.bs b o e).1
 obtain⟨c,oc,vs,tq,hc,hoc,hdc,hq⟩:=hcd
 subst hc
 refine codeAny_of_tree ?_
 show wpAny _ A.in1 (callAny (.ref g) ⟨[],[]⟩) _ _ s
 simp only[callAny]
 refine wpAny_bind (wpAny_load ho ?_)
 simp only[callFunction,T.co,T.gen]
 refine wpAny_bind (m:=field (.ref c) 1) (wpAny_field hoc hdc hq (wpAny_bind (wpAny_pure ?_)))
 rw[hbind]
 refine wpAny_bind (wpAny_pure (wpAny_bind (wpAny_newFunctionEnv T.cell (fun x hx=>by cases hx) (fun h1 hns hsb=>?_) T.kind)))
 have hk:∀b o,s.heap.get? b=some o->h1.get? b=some o:=fun b o e=>hsb.extBut b o (Nat.ne_of_lt (Heap.lt_size e)) (Heap.get?_push_of_some _ e)
 refine wpAny_bind (wpAny_enterFrame (lim.keeps hk) hr.depth (wpAny_pure (And.intro rfl ?_)))
 show codeAny _ _ (.expr body (PySem.W.envX q scope s.heap.objs.size g (.ref c) cl)) _ _
 obtain⟨t,ht,hq⟩:=hbody q (.ref c) (hr.deeper _)
 have I:Inv (m5 P w K mg base fr q scope g (.ref c) cl A outer s H E) [] σ H { s with heap:=h1,toks:=s.toks+([]:List (Str×Value)).length }:=GX T e0 hr.hd C hns hk
 refine PySem.W.kla_codeExpr (wpAny_mono (ht [] _ σ H _ I hq) (fun u s' hs=>?_) fun e s' hs=>hs)
 obtain⟨v,H',J,rv,q⟩:=hs
 exact⟨v,H',J.os,J.bare,J.base,J.hok,rv,q⟩
theorem Li:Passes (bM P w) (m5 P w K mg base N qual scope g cd cl A outer s H E) E:=by
 intro pins σ H1 s1 e s' I hf
 obtain⟨x,C,a0,H',B,rfl,os,bare,un,hok,fl,ci,cii,q⟩:=hf
 have J:Inv (m5 P w K mg base N qual scope g cd cl A outer s H E) pins σ H' s':=I.call' (ch:=[]) os un hok bare (fun b z=>absurd z (by simp))
 have hfr:(m5 P w K mg base N qual scope g cd cl A outer s H E).A.frames=some ((m5 P w K mg base N qual scope g cd cl A outer s H E).env::outer):=I.ok.frames
 have hfs:∀b∈frs outer,∃o,s'.heap.get? b=some o∧∀vs,o.data≠.fields vs:=fun b hb=>(fl.2.2.1.2.2.mem hb).2
 have hfrm:(m5 P w K mg base N qual scope g cd cl A outer s H E).env.frame=some (m5 P w K mg base N qual scope g cd cl A outer s H E).env.locals:=rfl
 have cov:∀b o,s.heap.get? b=some o->b∉frs outer->∃o',B.get? b=some o':=fun b o e hb=>by
  obtain⟨o1,h1⟩:=I.base.there b o e (show b∉([]:List Addr) by simp)
  refine cii b o1 h1 ?_
  show b∉frs ((m5 P w K mg base N qual scope g cd cl A outer s H E).env::outer)
  rw[qF hfrm]
  intro hm
  rcases List.mem_cons.mp hm with rfl | hm
  ·exact absurd (Heap.lt_size e) (Nat.not_lt.mpr I.ok.above)
  ·exact hb hm
 show wpAny _ _ (leaving _ (.ref x)) _ _ s'
 refine wpAny_leaves_onW hfr rfl fl fun h' fl' up=>?_
 exact⟨x,C,a0,H',B,rfl,J.os,bare,pQ J.base fl.1 fl'.1 up hfs cov,lY hok fl.1 fl'.1 ci,fl',ci,cov,q⟩
theorem Hw {x:Str}{st:Stmt}{f:Addr}{fd:FuncData}{N ps:List Str}{us:List Value}{vs:List V} (F:Fun K x x st f fd) (S:FnScope N ps (defScope st)) (e0:Env0 P w K mg base A outer s H) (hr:Room (k + 1) A)
  (hb:∀(kV doc pm:Value) (an:Option Addr) (cdv ct:Value),bindArgs (PySem.W.fnOf x x (defArgs st) (defBody st) (defScope st) .none kV doc pm an cdv ct) ⟨us,[]⟩=pure (ps.zip us)) (hl:vs.length=ps.length) (r:Vals vs us)
  (hbody:∀cdv,Room k (A.deeper (envOfC x (defScope st) s.heap.objs.size f cdv))->∃t,PSs (bO P w K mg base N x (defScope st) f cdv A outer s H E) (defBody st) t∧t { nx:=fun _ H'=>Q .non H',rt:=Q } (start N vs) H) :
  codeAny (model P w) A (.call (.ref f) ⟨us,[]⟩) (CR (bM P w) outer P w H s Q E) s:=by
 obtain⟨oc,od,kV,doc,pm,an,cdv,ct,osl,rfl,lk,hcd⟩:=F.ex
 have KX:K.In s.heap:=e0.mod.kin.keeps fun b o e=>(e0.bs b o e).1
 have lim:s.heap.NoLimit:=e0.mod.nolimit.keeps fun b o e=>(e0.bs b o e).1
 have hkind:∀y∈ps.zip us,(defScope st).names.lookup y.1=some .local∨((defScope st).names.lookup y.1=some .cell∧((cellsFrom (s.heap.objs.size+1) (defScope st).names []).lookup y.1).isSome=true):=fun⟨n,v⟩ hy=>by
  rcases S.par n (List.of_mem_zip hy).1 with q | q
  ·exact .inl q
  ·exact .inr ⟨q,PySem.W.cellsFrom_some _ _ _ (.inl q)⟩
 refine codeAny_call_function hr.depth (KX _ _ lk) rfl S.co S.gen rfl (PySem.W.codeRec_of KX hcd) ?_
 rw[hb]
 refine wpAny_pure (wpAny_newFunctionEnv_cells S.kind hkind fun env he s1 x=>?_)
 subst he
 refine⟨lim.keeps x.toInCall.keep,codeAny_func ?_⟩
 obtain⟨t,ht,hq⟩:=hbody cdv (hr.deeper _)
 have I:=inv_start (CX:=bM P w) (E:=E) S hr.hd e0 hl r x
 refine wpAny_mono (ht [] s1 (start N vs) H _ I hq) (fun fl s' hs=>?_) fun e s' hs=>hs
 cases fl with
 |ret u=>
   obtain⟨v,σ',H',J,rv,q⟩:=hs
   exact⟨v,H',J.os,J.bare,J.base,J.hok,rv,q⟩
 |next=>
   obtain⟨σ',H',J,q⟩:=hs
   exact⟨V.non,H',J.os,J.bare,J.base,J.hok,(rfl:RelV .non Value.none),q⟩
 |brk=>
   obtain⟨_,_,_,q⟩:=hs
   exact False.elim q
 |cont=>
   obtain⟨_,_,_,q⟩:=hs
   exact False.elim q
end
structure TabD(mg:Str->Option Value)(base:Heap)(c P:Addr):Prop where
 hd:PySem.W.CodeHd base c P
 ne:mainGlobals≠P
 bl:base.BuiltinsAt mg P
theorem BX {P:Program}{w:World}{K:PySem.W.Frag}{mg mb:Str->Option Value}{CX:CXT}{k:Nat}{fa a:Addr}{fd:FuncData}{x:Str}{sp:Sp}{s₁:Shared}{vs:List Value}{ns:List Int}{tabs:List (Addr×Addr)}
  (KX:K.In s₁.heap) (hns:s₁.heap.Ns mainGlobals mg) (hb:s₁.heap.Ns builtinsNs mb) (hbb:∀x:Str,x≠"__name__"->mb x=bootBuiltins x) (hlim:s₁.heap.NoLimit) (hg:s₁.gens=#[])
  (ha:s₁.heap.get? a=some { cls:=.type "list",data:=.seq vs.toArray }) (hi:IntsAre vs ns) (hl:ns.length≤sizeLine) (hr:Room k callerA) (hT:PySem.W.TabsAt tabs s₁.heap) (hKT:∀q∈tabs,K.lookup q.2=none) (hKA:K.lookup a=none)
  (hB:∃bm ob,mg "__builtins__"=some (.ref bm)∧bm≠builtinsNs∧s₁.heap.get? bm=some ob∧ob.cls=.type "module"∧ob.dict=some builtinsNs∧ob.data=.plain)
  (F:∀base:Heap,K.In base->base.Ns mainGlobals mg->(∀q∈tabs,TabD mg base q.1 q.2)->FnOk P w K mg base CX k fa fd [x] sp) (hbind:∀(s:Shared) (u:Value),BindsTo s fd ⟨[u],[]⟩ [(x,u)])
  (hsp:∀H:Hp,Rd H a (.lst (ns.map V.int))->(∀q∈tabs,H q.2=some (.tbl #[]))->sp [.ref a] H (fun v _=>v=.bl true) fun _ _ _=>False)
  (hCX:∀H e s',CX [] H s₁ (fun _ _ _=>False) e s'->False) :
  codeAny (model P w) callerA (.call (.ref fa) ⟨[.ref a],[]⟩) (fun r s'=>r=.ok (.ret (.bool true))∧OldK s₁.heap s'.heap∧s'.os=s₁.os∧AllBare s'.gens) s₁:=by
 have rv:=vals_ints hi
 have lenV:=hi.length
 let lo:Obj:={ cls:=.type "list",data:=.seq vs.toArray }
 let H:Hp:=fun b=>if b∈tabs.map (·.2) then some (.tbl #[]) else if b=a then some (.frz lo (.lst (ns.map V.int))) else none
 have tabO:∀b,b∈tabs.map (·.2)->s₁.heap.get? b=some (PySem.W.tabObj #[]):=fun b hb'=>by
  obtain⟨q,hq,rfl⟩:=List.mem_map.mp hb'
  exact (hT q hq).2
 have naT:a∉tabs.map (·.2):=fun z=>by
  have:=tabO a z
  rw[ha] at this;cases this
 have H1:∀b,b∈tabs.map (·.2)->H b=some (.tbl #[]):=fun b z=>if_pos z
 have H2:H a=some (.frz lo (.lst (ns.map V.int))):=(if_neg naT).trans (if_pos rfl)
 have H3:∀b,b∉tabs.map (·.2)->b≠a->H b=none:=fun b h1 h2=>(if_neg h1).trans (if_neg h2)
 have free:∀{b:Addr}{o:Obj},s₁.heap.get? b=some o->o≠PySem.W.tabObj #[]->o≠lo->H b=none:=fun {b o} e h1 h2=>H3 b (fun z=>h1 (by have:=tabO b z;rw[e] at this;exact Option.some.inj this)) (fun z=>h2 (by subst z;rw[ha] at e;exact (Option.some.inj e).symm))
 have hok:HOk P w H s₁.heap:=fun b u e=>by
  by_cases z:b∈tabs.map (·.2)
  ·rw[H1 b z] at e;cases e
   exact⟨#[],tabO b z,trivial,fun pos cv q=>by cases q⟩
  by_cases y:b=a
  ·subst y
   rw[H2] at e;cases e
   exact⟨ha,by rw[List.length_map];exact hl,vs,_,rv,ha⟩
  ·rw[H3 b z y] at e;cases e
 have base_of:∀{b:Addr}{o:Obj},s₁.heap.get? b=some o->o≠PySem.W.tabObj #[]->o≠lo->(hidT s₁.heap H).get? b=some o:=fun e h1 h2=>hidT_get e (free e h1 h2)
 have nsK:∀{b:Addr}{m:Str->Option Value},s₁.heap.Ns b m->(hidT s₁.heap H).Ns b m:=fun {b m} ⟨o,es,ep,e,d,r⟩=>⟨o,es,ep,base_of e (fun z=>by rw[z] at d;cases d) (fun z=>by rw[z] at d;cases d),d,r⟩
 have hKb:K.In (hidT s₁.heap H):=fun b o e=>hidT_get (KX b o e) (H3 b (fun z=>by
  obtain⟨q,hq,rfl⟩:=List.mem_map.mp z
  rw[hKT q hq] at e;cases e) fun z=>by rw[z,hKA] at e;cases e)
 have hM:Mod K mg (hidT s₁.heap H):=⟨hKb,nsK hns,⟨mb,nsK hb,hbb⟩,let ⟨mc,h1,h2⟩:=hlim;⟨mc,nsK h1,h2⟩⟩
 have e0:Env0 P w K mg (hidT s₁.heap H) callerA [] s₁ H:=⟨rfl,hM,fun b o e=>of_hidT e,Nat.le_of_eq (hidT_size _ _),trivial,fun b hb=>absurd (show b∈([]:List Addr) from hb) (by simp),hok,.of_eq hg⟩
 have hTD:∀ q∈tabs,TabD mg (hidT s₁.heap H) q.1 q.2:=fun q hq=>by
  obtain⟨o,vs',file,tf,flags,tg,inF,text,tt,e1,r1,r⟩:=(hT q hq).1
  have eP:=(hT q hq).2
  refine⟨⟨o,vs',file,tf,flags,tg,inF,text,tt,base_of e1 (fun z=>by rw[z] at r1;cases r1) (fun z=>by rw[z] at r1;simp[lo] at r1),r1,r⟩,fun z=>?_,?_⟩
  ·obtain⟨o',es,ep,e,d,_⟩:=hns
   rw[z,eP] at e;cases e;cases d
  ·obtain⟨bm,ob,b1,b2,b3,b4,b5,b6⟩:=hB
   refine⟨bm,ob,b1,b2,fun z=>?_,fun z=>?_,base_of b3 (fun z=>by rw[z] at b4;cases b4) (fun z=>by rw[z] at b4;simp[lo] at b4),b4,b5,b6⟩
   ·obtain⟨o',es,ep,e,d,_⟩:=hns
    rw[z,e] at b3;cases b3;rw[d] at b6;cases b6
   ·rw[z,eP] at b3;cases b3;cases b4
 refine codeAny_mono ((F _ hKb (nsK hns) hTD).run callerA [] s₁ H ⟨[.ref a],[]⟩ [.ref a] [.ref a] _ _ hr e0 (hbind s₁ (.ref a)) (.cons rfl .nil) (hsp H (.inr ⟨_,H2⟩) fun q hq=>H1 _ (List.mem_map_of_mem hq))) fun r s' h=>?_
 cases r with
 |error e=>exact (hCX H e s' h).elim
 | ok fl=>
   cases fl with
   |next=>exact False.elim h
   |brk=>exact False.elim h
   |cont=>exact False.elim h
   | ret u=>
     obtain⟨v,H',os,bare,un,hok',r',q⟩:=h
     have q':v=.bl true:=q
     subst q'
     obtain rfl:u=Value.bool true:=r'
     have kept:∀b o,s₁.heap.get? b=some o->b∉tabs.map (·.2)->s'.heap.get? b=some o:=fun b o e z=>by
      by_cases y:b=a
      ·subst y
       have z2:=un.frzs b lo _ H2
       obtain⟨e2,_⟩:=hok' b _ z2
       rw[ha] at e;cases e
       exact e2
      ·exact un.keep b o e (H3 b z y) (by intro z;exact absurd (show b∈([]:List Addr) from z) (by simp)) (by simp)
     have grown:∀b,b∈tabs.map (·.2)->∃ps,s'.heap.get? b=some (PySem.W.tabObj ps):=fun b z=>by
      obtain⟨m,e⟩:=un.tbls b _ (H1 b z)
      obtain⟨ps,e2,_⟩:=hok' b _ e
      exact⟨ps,e2⟩
     refine⟨rfl,⟨fun b o e=>?_,fun b o e=>?_⟩,os,bare⟩
     ·by_cases z:b∈tabs.map (·.2)
      ·obtain⟨ps,e2⟩:=grown b z
       obtain⟨q,hq,rfl⟩:=List.mem_map.mp z
       have e3:=(hT q hq).2
       rw[e] at e3
       cases Option.some.inj e3
       exact .inr (.inl ⟨((hT q hq).1.tab (hT q hq).2).isCodeTable,rfl,#[],ps,rfl,by rw[Array.empty_append];exact e2⟩)
      ·exact .inl (kept b o e z)
     ·by_cases z:b∈tabs.map (·.2)
      ·obtain⟨ps,e2⟩:=grown b z
       exact⟨_,e2⟩
      ·exact⟨o,kept b o e z⟩
theorem Fun.codeC{K:PySem.W.Frag}{mg:Str->Option Value}{x:Str}{st:Stmt}{f:Addr}{fd:FuncData}{c P:Addr}{h:Heap}(F:Fun K x x st f fd)(X:K.In h)(G:h.Ns mainGlobals mg)(m:mg x=some (.ref f))(ht:PySem.W.tabIn K x=some (c,P)):fd.code=.ref c:=by
 obtain⟨oc,od,kV,doc,pm,an,cdv,ct,osl,e,lk,_⟩:=F.ex
 exact PySem.W.law_code X G ht m (X _ _ lk) rfl
theorem Fq {l:PySem.W.OpenLaw}{n k:Nat}{q:Program}{loose:List Str}{XP:(Str->Option Value)->Heap->Prop}{YP:World->Heap->Prop}{d:DefRec}{K:Params->PySem.W.Frag}{CX:World->CXT}{sp:List (Addr×Addr)->Sp}{x:Str}{tn:List (Str×Addr×Addr)}
  (hn:l.most=some n) (hn2:n≤sizeLine) (hdf:d.params.defaults=[]) (hr:Room k callerA)
  (hY:∀(w:World) (h:Heap),YP w h->(K w.params).In h) (hnl:∀(w:World) (a:Addr) (o:Obj),(K w.params).lookup a=some o->o.cls≠.type "list")
  (h1:∀t∈tn,((recsOf q).find? (fun e=>e.name==t.1)).isSome=true) (h2:∀(w:World),∀t∈tn,PySem.W.tabIn (K w.params) t.1=some t.2) (h3:∀(w:World),∀t∈tn,(K w.params).lookup t.2.2=none)
  (F:∀ (w:World) (mg:Str->Option Value) (fa:Addr) (h:Heap),(K w.params).In h->h.Ns mainGlobals mg->mg d.name=some (.ref fa)->
    ∃fd:FuncData,(∀(s:Shared) (u:Value),BindsTo s fd ⟨[u],[]⟩ [(x,u)]) ∧
      ∀base:Heap,(K w.params).In base->base.Ns mainGlobals mg->(∀q∈tn.map (·.2),TabD mg base q.1 q.2)->FnOk l.prog w (K w.params) mg base (CX w) k fa fd [x] (sp (tn.map (·.2))))
  (hsp:∀(H:Hp) (a:Addr) (ns:List Int),ns.length≤n->Rd H a (.lst (ns.map V.int))->(∀q∈tn.map (·.2),H q.2=some (.tbl #[]))->sp (tn.map (·.2)) [.ref a] H (fun v _=>v=.bl true) fun _ _ _=>False)
  (hCX:∀(w:World) (H:Hp) (s:Shared) (e:Value) (s':Shared),CX w [] H s (fun _ _ _=>False) e s'->False) :
  PySem.W.WalkO q loose XP YP l.row.toRowW d [] (fun f vs=>PySem.call f vs):=by
 refine Att.attach_call hn hdf fun w s₀ s₁ mg mb fa o pm cd doc a vs ns G Y ho hd hcd hmg hobj hints hlen hg=>?_
 have KX:=hY w _ Y
 obtain⟨fd,hb,hF⟩:=F w mg fa _ KX G.T.g hmg
 have hKA:(K w.params).lookup a=none:=by
  cases z:(K w.params).lookup a with
  |none=>rfl
  |some oa=>
    have e:=KX a oa z
    rw[hobj] at e
    cases e
    exact absurd rfl (hnl w a _ z)
 have hT:PySem.W.TabsAt (tn.map (·.2)) s₁.heap:=fun q hq=>by
  obtain⟨t,ht,rfl⟩:=List.mem_map.mp hq
  obtain⟨d',hd'⟩:=Option.isSome_iff_exists.mp (h1 t ht)
  exact PySem.W.tab_of G.T KX hd' (h2 w t ht)
 exact BX KX G.T.g G.T.b G.T.builtins G.T.nolimit hg hobj hints (Nat.le_trans hlen hn2) hr hT (fun q hq=>by
  obtain⟨t,ht,rfl⟩:=List.mem_map.mp hq
  exact h3 w t ht) hKA G.T.bmain hF hb (fun H hS hH=>hsp H a ns hlen hS hH) fun H e s'=>hCX w H s₁ e s'
open PySem PySem.Spec PyProof.Rows
theorem Df{K:PySem.W.Frag}{x:Str}{f c P:Addr}{oc occ:Value}{od ocd:Option Addr}{osl ocs:Array (Option Value)}{fd:FuncData}{vs:Array Value}(a:PySem.W.nsIn K mainGlobals x=some (some (.ref f)))(l:K.lookup f=some ⟨oc,od,.func fd,osl⟩)(hc:fd.code=.ref c)
  (l2:K.lookup c=some ⟨occ,ocd,.fields vs,ocs⟩) (h11:vs[11]?=some (.ref P)):PySem.W.tabIn K x=some (c,P):=by
 unfold PySem.W.tabIn
 rw[a]
 simp only[l,hc,l2,h11]
end L2
namespace L2
open PySem PySem.Spec PyProof.Rows
open PySem PySem.Spec PyProof.Rows
open PySem PySem.Spec PyProof.Rows
end L2
namespace L2
open PySem PySem.Spec PyProof.Rows LS
end L2
namespace L2
open PySem PySem.Spec PyProof.Rows
end L2
namespace LB
open PySem PySem.W PyProof.Rows
end LB
namespace LB
open PySem PySem.W PySem.Calls PyProof.Rows
end LB
namespace L2
open PySem PySem.Spec PyProof.Rows LS LB
end L2
namespace LB
open PySem PySem.W PySem.Calls PyProof.Rows
end LB
namespace L2
open PySem PySem.Spec PyProof.Rows LS LB
end L2
namespace LB
open PySem PySem.Spec L2
open PyProof.Rows hiding St
open Sem (wp)
end LB
namespace LA
open PySem LS
end LA
namespace LA
open PySem LS PyProof.Rows
end LA
namespace L2
open PySem PySem.Spec PyProof.Rows LS LA LB
end L2
namespace LA
open PySem PySem.Spec PyProof.Rows LS LB
end LA
namespace L2
open PySem PySem.Spec PyProof.Rows LS LA LB
end L2
namespace LA
open PySem PySem.Spec PyProof.Rows LS
end LA
namespace L2
open PySem PySem.Spec PyProof.Rows LS
end L2
namespace L3
open PySem PySem.Spec L2
open PyProof.Rows hiding St
inductive D where
 |non | bl (b:Bool) | int (i:Int) | str (x:Str)
 |tup (l:List D) | lst (l:List D)
 |dic (ks:List Key) (vs:List D)
 |obj (c:Str) (ns:List Str) (vs:List D)
 |scr (ns:List Int)
 |ref (n:Nat)
 |cls (c:Str) | ty (t:String)
 |exn (a:Addr)
instance:Inhabited D:=⟨.non⟩
inductive DO where
 |lst (l:List D)
 |dic (ks:List Key) (vs:List D)
 |ins (c:Str) (ns:List Str) (vs:List D)
abbrev Mo:=List DO
inductive R(α:Type) where
 |ok (a:α) | exc (c:Str)
def DM(α:Type):=Mo->Option (R α×Mo)
@[reducible] def DM.pure{α:Type}(a:α):DM α:=fun M=>some (.ok a,M)
def DM.bind{α β:Type}(m:DM α)(f:α->DM β):DM β:=fun M=>match m M with
 |none=>none
 |some (.exc c,M')=>some (.exc c,M')
 |some (.ok a,M')=>f a M'
instance:Monad DM where
 pure:=DM.pure
 bind:=DM.bind
def rd{α:Type}(f:Mo->Option α):DM α:=fun M=>(f M).map fun a=>(.ok a,M)
def opt{α:Type}(o:Option α):DM α:=fun M=>o.map fun a=>(.ok a,M)
def stuck{α:Type}:DM α:=fun _=>none
def raise{α:Type}(c:Str):DM α:=fun M=>some (.exc c,M)
abbrev ao:=List (Option D)
structure Rh where
 st:List Addr
 vo:List Addr
instance:Membership Addr Rh:=⟨fun ρ a=>a∈ρ.st∨a∈ρ.vo⟩
def Rh.put(ρ:Rh)(p:Addr):Rh:=⟨ρ.st++[p],ρ.vo⟩
def Rh.hold(ρ:Rh)(p:Addr):Rh:=⟨ρ.st,p::ρ.vo⟩
mutual
inductive Cv(mg:Str->Option Value)(ρ:Rh)(H:Hp):V->D->Prop
 |non:Cv mg ρ H .non .non
 |bl (b:Bool):Cv mg ρ H (.bl b) (.bl b)
 |int (i:Int):Cv mg ρ H (.int i) (.int i)
 |str (x:Str):Cv mg ρ H (.str x) (.str x)
 |tup {a:Addr}{xs:List V}{ds:List D}:a∉ρ->H a=some (.tup xs)->Cvs mg ρ H xs ds->Cv mg ρ H (.ref a) (.tup ds)
 |lst {a:Addr}{xs:List V}{ds:List D}:a∉ρ->H a=some (.lst xs)->Cvs mg ρ H xs ds->Cv mg ρ H (.ref a) (.lst ds)
 |dic {a:Addr}{ks:List Key}{xs:List V}{ds:List D}:a∉ρ->H a=some (.dK (ks.zip xs))->ks.length=xs.length->Cvs mg ρ H xs ds->Cv mg ρ H (.ref a) (.dic ks ds)
 |obj {a C dx:Addr}{c:Str}{ns:List Str}{xs:List V}{ds:List D}:a∉ρ->mg c=some (.ref C)->H a=some (.ins C dx (ns.zip xs))->ns.length=xs.length->Cvs mg ρ H xs ds->Cv mg ρ H (.ref a) (.obj c ns ds)
 |scr {a:Addr}{ns:List Int}:a∉ρ->Rd H a (.lst (ns.map V.int))->Cv mg ρ H (.ref a) (.scr ns)
 |ref {n:Nat}{a:Addr}:ρ.st[n]?=some a->Cv mg ρ H (.ref a) (.ref n)
 |cls {c:Str}{C:Addr}:mg c=some (.ref C)->Cv mg ρ H (.ref C) (.cls c)
 |ty (t:String):Cv mg ρ H (.ty t) (.ty t)
 |exn (a:Addr):Cv mg ρ H (.ref a) (.exn a)
inductive Cvs(mg:Str->Option Value)(ρ:Rh)(H:Hp):List V->List D->Prop
 |nil:Cvs mg ρ H [] []
 |cons {v:V}{d:D}{vs:List V}{ds:List D}:Cv mg ρ H v d->Cvs mg ρ H vs ds->Cvs mg ρ H (v::vs) (d::ds)
end
structure Ext(ρ:Rh)(H:Hp)(ρ':Rh)(H':Hp):Prop where
 pre:∃τ,ρ'.st=ρ.st++τ
 vo:ρ'.vo=ρ.vo
 new:∀a,a∈ρ'.st->a∉ρ.st->H a=none
 keep:∀a o,H a=some o->a∉ρ.st->H' a=some o
theorem Ext.refl:Ext ρ H ρ H:=⟨⟨[],by simp⟩,rfl,fun a h n=>absurd h n,fun _ _ h _=>h⟩
theorem Ext.keeps(e:Ext ρ H ρ' H')(h:H a=some o)(n:a∉ρ):H' a=some o:=e.keep a o h fun z=>n (.inl z)
theorem Ext.out1(e:Ext ρ H ρ' H')(h:H a=some o)(n:a∉ρ.st):a∉ρ'.st:=fun z=>by
 have:=e.new a z n
 rw[h] at this;cases this
theorem Ext.out(e:Ext ρ H ρ' H')(h:H a=some o)(n:a∉ρ):a∉ρ':=fun z=>by
 rcases z with z | z
 ·exact e.out1 h (fun y=>n (.inl y)) z
 ·rw[e.vo] at z;exact n (.inr z)
theorem Ext.trans (e:Ext ρ H ρ1 H1) (f:Ext ρ1 H1 ρ2 H2):Ext ρ H ρ2 H2:=by
 refine⟨?_,f.vo.trans e.vo,fun a h n=>?_,fun a o h n=>f.keep a o (e.keep a o h n) (e.out1 h n)⟩
 ·obtain⟨τ,h1⟩:=e.pre
  obtain⟨υ,h2⟩:=f.pre
  exact⟨τ++υ,by rw[h2,h1,List.append_assoc]⟩
 ·by_cases z:a∈ρ1.st
  ·exact e.new a z n
  ·cases q:H a with
   |none=>rfl
   |some o=>
     have:=f.new a h z
     rw[e.keep a o q n] at this;cases this
theorem Ext.at(e:Ext ρ H ρ' H'){n:Nat}(h:ρ.st[n]?=some a):ρ'.st[n]?=some a:=by
 obtain⟨τ,h1⟩:=e.pre
 rw[h1,List.getElem?_append_left (List.getElem?_eq_some_iff.mp h).1];exact h
theorem Rh.nhold{ρ:Rh}{a p:Addr}(h:a∉ρ)(n:a≠p):a∉ρ.hold p:=fun z=>by
 rcases z with z | z
 ·exact h (.inl z)
 ·rcases List.mem_cons.mp z with z | z
  ·exact n z
  ·exact h (.inr z)
section
variable{mg:Str->Option Value}{ρ ρ':Rh}{H H':Hp}
theorem Cvs.ind{P:List V->List D->Prop}{vs:List V}{ds:List D}(h:Cvs mg ρ H vs ds)(n:P [] [])(c:∀{v d vs ds},Cv mg ρ H v d->Cvs mg ρ H vs ds->P vs ds->P (v::vs) (d::ds)):P vs ds:=
 Cvs.rec (motive_1:=fun _ _ _=>True) (motive_2:=fun vs ds _=>P vs ds) ⟨⟩ (fun _=>⟨⟩) (fun _=>⟨⟩) (fun _=>⟨⟩) (fun _ _ _ _=>⟨⟩) (fun _ _ _ _=>⟨⟩) (fun _ _ _ _ _=>⟨⟩) (fun _ _ _ _ _ _=>⟨⟩) (fun _ _=>⟨⟩) (fun _=>⟨⟩) (fun _=>⟨⟩) (fun _=>⟨⟩) (fun _=>⟨⟩) n (fun a t _ i=>c a t i) h
theorem Cvs.gen(at_:∀(n:Nat) a,ρ.st[n]?=some a->ρ'.st[n]?=some a)(kp:∀a o,H a=some o->a∉ρ->(∀φ,o≠.ext φ)->a∉ρ'∧H' a=some o){vs:List V}{ds:List D}(h:Cvs mg ρ H vs ds):Cvs mg ρ' H' vs ds:=
 Cvs.rec (motive_1:=fun v d _=>Cv mg ρ' H' v d) (motive_2:=fun vs ds _=>Cvs mg ρ' H' vs ds) .non .bl .int .str (fun n h _ c=>.tup (kp _ _ h n nofun).1 (kp _ _ h n nofun).2 c) (fun n h _ c=>.lst (kp _ _ h n nofun).1 (kp _ _ h n nofun).2 c) (fun n h l _ c=>.dic (kp _ _ h n nofun).1 (kp _ _ h n nofun).2 l c) (fun n m h l _ c=>.obj (kp _ _ h n nofun).1 m (kp _ _ h n nofun).2 l c)
  (fun n h=>h.elim (fun h=>.scr (kp _ _ h n nofun).1 (.inl (kp _ _ h n nofun).2)) fun⟨_,h⟩=>.scr (kp _ _ h n nofun).1 (.inr ⟨_,(kp _ _ h n nofun).2⟩)) (fun h=>.ref (at_ _ _ h)) .cls .ty .exn .nil (fun _ _=>.cons) h
theorem Cvs.hd{v:V}{d:D}{vs:List V}{ds:List D}(h:Cvs mg ρ H (v::vs) (d::ds)):Cv mg ρ H v d:=by cases h;assumption
theorem Cv.gen(at_:∀(n:Nat) a,ρ.st[n]?=some a->ρ'.st[n]?=some a)(kp:∀a o,H a=some o->a∉ρ->(∀φ,o≠.ext φ)->a∉ρ'∧H' a=some o){v:V}{d:D}(h:Cv mg ρ H v d):Cv mg ρ' H' v d:=(Cvs.gen at_ kp (.cons h .nil)).hd
theorem Cv.mono(e:Ext ρ H ρ' H'){v:V}{d:D}(h:Cv mg ρ H v d):Cv mg ρ' H' v d:=h.gen (fun _ _=>e.at) fun _ _ h n _=>⟨e.out h n,e.keeps h n⟩
theorem Cvs.mono(e:Ext ρ H ρ' H'){v:List V}{d:List D}(h:Cvs mg ρ H v d):Cvs mg ρ' H' v d:=h.gen (fun _ _=>e.at) fun _ _ h n _=>⟨e.out h n,e.keeps h n⟩
theorem Cvs.len{vs:List V}{ds:List D}(h:Cvs mg ρ H vs ds):vs.length=ds.length:=h.ind (P:=fun vs ds=>vs.length=ds.length) rfl fun _ _=>congrArg (·+ 1)
theorem Cvs.append{vs us:List V}{ds es:List D}(h:Cvs mg ρ H vs ds)(h2:Cvs mg ρ H us es):Cvs mg ρ H (vs++us) (ds++es):=h.ind (P:=fun vs ds=>Cvs mg ρ H (vs++us) (ds++es)) h2 fun a _=>.cons a
theorem Cvs.take{vs:List V}{ds:List D}(n:Nat)(h:Cvs mg ρ H vs ds):Cvs mg ρ H (vs.take n) (ds.take n):=h.ind (P:=fun vs ds=>∀n,Cvs mg ρ H (vs.take n) (ds.take n)) (fun n=>by rw[List.take_nil,List.take_nil];exact .nil) (fun a _ i n=>by cases n with | zero=>exact .nil | succ n=>exact .cons a (i n)) n
theorem Cvs.drop{vs:List V}{ds:List D}(n:Nat)(h:Cvs mg ρ H vs ds):Cvs mg ρ H (vs.drop n) (ds.drop n):=h.ind (P:=fun vs ds=>∀n,Cvs mg ρ H (vs.drop n) (ds.drop n)) (fun n=>by rw[List.drop_nil,List.drop_nil];exact .nil) (fun a t i n=>by cases n with | zero=>exact .cons a t | succ n=>exact i n) n
theorem Cvs.get{vs:List V}{ds:List D}{i:Nat}{d:D}(h:Cvs mg ρ H vs ds):ds[i]?=some d->∃v,vs[i]?=some v∧Cv mg ρ H v d:=h.ind (P:=fun vs ds=>∀i,ds[i]?=some d->∃v,vs[i]?=some v∧Cv mg ρ H v d) (fun _ e=>by cases e) (fun {v _ _ _} a _ r i=>by cases i with | zero=>exact fun e=>⟨v,rfl,Option.some.inj e ▸ a⟩ | succ n=>exact r n) i
theorem Cvs.set{v:V}{d:D}(h:Cv mg ρ H v d){vs:List V}{ds:List D}(i:Nat)(c:Cvs mg ρ H vs ds):Cvs mg ρ H (vs.set i v) (ds.set i d):=c.ind (P:=fun vs ds=>∀i,Cvs mg ρ H (vs.set i v) (ds.set i d)) (fun _=>.nil) (fun a t r i=>by cases i with | zero=>exact .cons h t | succ n=>exact .cons a (r n)) i
def mK(mg:Str->Option Value)(ρ:Rh)(H:Hp)(a:Addr):DO->Prop
 |.lst l=>∃xs,H a=some (.lst xs)∧Cvs mg ρ H xs l
 |.dic ks l=>∃xs,H a=some (.dK (ks.zip xs))∧ks.length=xs.length∧Cvs mg ρ H xs l
 |.ins c ns l=>∃C dx xs,mg c=some (.ref C)∧H a=some (.ins C dx (ns.zip xs))∧ns.length=xs.length∧Cvs mg ρ H xs l
theorem mK.some{a:Addr}{o:DO}(h:mK mg ρ H a o):∃u,H a=some u:=by
 cases o with
 |lst l=>obtain⟨xs,h,_⟩:=h;exact⟨_,h⟩
 |dic ks l=>obtain⟨xs,h,_⟩:=h;exact⟨_,h⟩
 |ins c ns l=>obtain⟨C,dx,xs,_,h,_⟩:=h;exact⟨_,h⟩
theorem mK.mono{a:Addr}{o:DO}(e:Ext ρ H ρ' H')(k:H' a=H a)(h:mK mg ρ H a o):mK mg ρ' H' a o:=by
 cases o with
 |lst l=>obtain⟨xs,h,c⟩:=h;exact⟨xs,k.trans h,c.mono e⟩
 |dic ks l=>obtain⟨xs,h,q,c⟩:=h;exact⟨xs,k.trans h,q,c.mono e⟩
 |ins c ns l=>obtain⟨C,dx,xs,m,h,q,c⟩:=h;exact⟨C,dx,xs,m,k.trans h,q,c.mono e⟩
structure J(mg:Str->Option Value)(ρ:Rh)(M:Mo)(H:Hp):Prop where
 len:ρ.st.length=M.length
 nd:ρ.st.Nodup
 obj:∀(n:Nat) a o,ρ.st[n]?=some a->M[n]?=some o->mK mg ρ H a o
 vol:∀a,a∈ρ.vo->a∉ρ.st∧∃xs,H a=some (.lst xs)
theorem J.some{M:Mo}(j:J mg ρ M H){a:Addr}(h:a∈ρ):∃u,H a=some u:=by
 rcases h with h | h
 ·obtain⟨n,hn⟩:=List.mem_iff_getElem?.mp h
  have lt:n<M.length:=by rw[←j.len];exact (List.getElem?_eq_some_iff.mp hn).1
  exact (j.obj n a M[n] hn (List.getElem?_eq_getElem lt)).some
 ·obtain⟨_,xs,e⟩:=j.vol a h
  exact⟨_,e⟩
theorem J.fresh{M:Mo}(j:J mg ρ M H){p:Addr}(h:H p=none):p∉ρ:=fun z=>by
 obtain⟨u,e⟩:=j.some z
 rw[h] at e;cases e
theorem J.inj{M:Mo}(j:J mg ρ M H){n m:Nat}{a:Addr}(h:ρ.st[n]?=Option.some a)(k:ρ.st[m]?=Option.some a):n=m:=by
 obtain⟨h1,e1⟩:=List.getElem?_eq_some_iff.mp h
 obtain⟨h2,e2⟩:=List.getElem?_eq_some_iff.mp k
 have q:∀i k (hi:i<ρ.st.length) (hk:k<ρ.st.length),i<k->ρ.st[i]≠ρ.st[k]:=fun i k hi hk lt=>List.pairwise_iff_getElem.mp j.nd i k hi hk lt
 rcases Nat.lt_trichotomy n m with z | z | z
 ·exact absurd (e1.trans e2.symm) (q n m h1 h2 z)
 ·exact z
 ·exact absurd (e2.trans e1.symm) (q m n h2 h1 z)
theorem Ext.lay{p:Addr}{o:HO}(h:H p=none):Ext ρ H ρ (upd H p o):=⟨⟨[],by simp⟩,rfl,fun a h n=>absurd h n,fun a o e _=>by rw[upd_ne (ne_of_none e h)];exact e⟩
theorem Ext.same(S:Same H H'):Ext ρ H ρ H':=⟨⟨[],by simp⟩,rfl,fun a h n=>absurd h n,fun a o e _=>S _ _ e⟩
theorem J.same{M:Mo}(j:J mg ρ M H)(S:Same H H'):J mg ρ M H':=⟨j.len,j.nd,fun n a o h k=>by
 have c:=j.obj n a o h k
 obtain⟨u,e⟩:=c.some
 exact c.mono (Ext.same S) (by rw[e,S _ _ e]),fun a h=>let ⟨x,xs,e⟩:=j.vol a h;⟨x,xs,S _ _ e⟩⟩
theorem J.lay{M:Mo}(j:J mg ρ M H){p:Addr}(o:HO)(h:H p=none):J mg ρ M (upd H p o):=j.same (same_new h o)
theorem Ext.put{p:Addr}{o:HO}(h:H p=none):Ext ρ H (ρ.put p) (upd H p o):=⟨⟨[p],rfl⟩,rfl,fun a ha n=>by
 rcases List.mem_append.mp ha with z | z
 ·exact absurd z n
 ·rw[List.mem_singleton.mp z];exact h,fun a o e _=>by rw[upd_ne (ne_of_none e h)];exact e⟩
theorem J.put {M:Mo} (j:J mg ρ M H) {p:Addr}{o:HO}{u:DO} (h:H p=none) (c:mK mg (ρ.put p) (upd H p o) p u):J mg (ρ.put p) (M++[u]) (upd H p o):=by
 have np:p∉ρ.st:=fun z=>j.fresh h (.inl z)
 refine⟨?_,?_,fun n a w h1 h2=>?_,fun a ha=>?_⟩
 ·show (ρ.st++[p]).length=_
  rw[List.length_append,List.length_append,j.len];rfl
 ·show (ρ.st++[p]).Nodup
  rw[List.nodup_append]
  exact⟨j.nd,by simp,fun x hx y hy e=>by rw[List.mem_singleton.mp hy] at e;exact np (e ▸ hx)⟩
 ·have h1:(ρ.st++[p])[n]?=Option.some a:=h1
  by_cases hn:n<ρ.st.length
  ·rw[List.getElem?_append_left hn] at h1
   rw[List.getElem?_append_left (by rw[←j.len];exact hn)] at h2
   have c:=j.obj n a w h1 h2
   exact c.mono (Ext.put h) (upd_ne fun (z:a=p)=>np (z ▸ List.mem_of_getElem? h1))
  ·have hl:n<(ρ.st++[p]).length:=(List.getElem?_eq_some_iff.mp h1).1
   rw[List.length_append] at hl
   have e:n=ρ.st.length:=by have:[p].length=1:=rfl;lia
   subst e
   rw[List.getElem?_append_right (Nat.le_refl _)] at h1
   rw[j.len,List.getElem?_append_right (Nat.le_refl _)] at h2
   simp at h1 h2
   subst h1 h2
   exact c
 ·obtain⟨x,xs,e⟩:=j.vol a ha
  have ne:a≠p:=ne_of_none e h
  refine⟨fun z=>?_,xs,by rw[upd_ne ne];exact e⟩
  rcases List.mem_append.mp z with z | z
  ·exact x z
  ·exact ne (List.mem_singleton.mp z)
theorem Ext.upd{p:Addr}{o:HO}(h:p∈ρ.st):Ext ρ H ρ (L2.upd H p o):=⟨⟨[],by simp⟩,rfl,fun a h n=>absurd h n,fun a u e n=>by rw[upd_ne (fun (z:a=p)=>n (z ▸ h))];exact e⟩
theorem J.upd {M:Mo} (j:J mg ρ M H) {n:Nat}{p:Addr}{o:HO}{u:DO} (h:ρ.st[n]?=Option.some p) (c:mK mg ρ (L2.upd H p o) p u):J mg ρ (M.set n u) (L2.upd H p o):=by
 refine⟨by rw[List.length_set];exact j.len,j.nd,fun m a w h1 h2=>?_,fun a ha=>?_⟩
 ·by_cases e:m=n
  ·subst e
   rw[h] at h1;cases h1
   have lt:m<M.length:=by rw[←j.len];exact (List.getElem?_eq_some_iff.mp h).1
   rw[List.getElem?_set_self lt] at h2
   cases h2
   exact c
  ·rw[List.getElem?_set_ne (fun z=>e z.symm)] at h2
   have ne:a≠p:=fun z=>by subst z;exact e (j.inj h1 h)
   exact (j.obj m a w h1 h2).mono (Ext.upd (List.mem_of_getElem? h)) (by rw[upd_ne ne])
 ·obtain⟨x,xs,e⟩:=j.vol a ha
  exact⟨x,xs,by rw[upd_ne (fun (z:a=p)=>x (z ▸ List.mem_of_getElem? h))];exact e⟩
theorem HS{p a:Addr}{o:HO}(hp:p∈ρ.vo)(n:a∉ρ):L2.upd H p o a=H a:=upd_ne fun z=>n (by rw[z];exact .inr hp)
theorem Cvs.hold{p:Addr}{o:HO}(hp:p∈ρ.vo){v:List V}{d:List D}(h:Cvs mg ρ H v d):Cvs mg ρ (L2.upd H p o) v d:=h.gen (fun _ _ h=>h) fun _ _ h n _=>⟨n,(HS hp n).trans h⟩
theorem Cvs.less{ρ1:Rh}(hs:ρ1.st=ρ.st)(hv:∀a,a∈ρ1.vo->a∈ρ.vo){v:List V}{d:List D}(h:Cvs mg ρ H v d):Cvs mg ρ1 H v d:=h.gen (fun _ _ h=>hs ▸ h) fun _ _ h n _=>⟨fun z=>n (z.elim (fun y=>.inl (hs ▸ y)) fun y=>.inr (hv _ y)),h⟩
theorem Cvs.more{p:Addr}(hp:H p=none){v:List V}{d:List D}(h:Cvs mg ρ H v d):Cvs mg (ρ.hold p) H v d:=h.gen (ρ:=ρ) (ρ':=ρ.hold p) (fun _ _ h=>h) fun _ _ h n _=>⟨Rh.nhold n (ne_of_none h hp),h⟩
theorem mK.map{ρ1:Rh}{H1:Hp}{a:Addr}{o:DO}(k:H1 a=H a)(f:∀vs ds,Cvs mg ρ H vs ds->Cvs mg ρ1 H1 vs ds)(h:mK mg ρ H a o):mK mg ρ1 H1 a o:=by
 cases o with
 |lst l=>obtain⟨xs,h,c⟩:=h;exact⟨xs,k.trans h,f _ _ c⟩
 |dic ks l=>obtain⟨xs,h,q,c⟩:=h;exact⟨xs,k.trans h,q,f _ _ c⟩
 |ins c ns l=>obtain⟨C,dx,xs,m,h,q,c⟩:=h;exact⟨C,dx,xs,m,k.trans h,q,f _ _ c⟩
theorem J.begin {M:Mo} (j:J mg ρ M H) {p:Addr} (hp:H p=none):J mg (ρ.hold p) M (L2.upd H p (.lst [])):=by
 have np:p∉ρ.st:=fun z=>j.fresh hp (.inl z)
 refine⟨j.len,j.nd,fun n a o h1 h2=>?_,fun a ha=>?_⟩
 ·exact (j.obj n a o h1 h2).map (upd_ne fun (z:a=p)=>np (z ▸ List.mem_of_getElem? h1)) fun vs ds c=>(c.more hp).hold (.head _)
 ·rcases List.mem_cons.mp ha with rfl | ha
  ·exact⟨np,[],upd_same⟩
  ·obtain⟨x,xs,e⟩:=j.vol a ha
   exact⟨x,xs,by rw[upd_ne (ne_of_none e hp)];exact e⟩
theorem J.grow {M:Mo} (j:J mg ρ M H) {p:Addr}{ys:List V} (hp:p∈ρ.vo):J mg ρ M (L2.upd H p (.lst ys)):=by
 refine⟨j.len,j.nd,fun n a o h1 h2=>?_,fun a ha=>?_⟩
 ·exact (j.obj n a o h1 h2).map (upd_ne fun (z:a=p)=>(j.vol p hp).1 (z ▸ List.mem_of_getElem? h1)) fun vs ds c=>c.hold hp
 ·by_cases z:a=p
  ·subst z;exact⟨(j.vol a ha).1,ys,upd_same⟩
  ·obtain⟨x,xs,e⟩:=j.vol a ha
   exact⟨x,xs,by rw[upd_ne z];exact e⟩
theorem J.done{M:Mo}{p:Addr}{ρ1:Rh}(j:J mg ρ1 M H)(hv:ρ1.vo=p::ρ.vo):J mg ⟨ρ1.st,ρ.vo⟩ M H:=by
 refine⟨j.len,j.nd,fun n a o h1 h2=>?_,fun a ha=>?_⟩
 ·exact mK.map (ρ:=ρ1) rfl (fun vs ds c=>Cvs.less (ρ:=ρ1) (ρ1:=⟨ρ1.st,ρ.vo⟩) rfl (fun a ha=>by rw[hv];exact .tail _ ha) c) (j.obj n a o h1 h2)
 ·obtain⟨x,y⟩:=j.vol a (by rw[hv];exact .tail _ ha)
  exact⟨x,y⟩
end
structure Kp(ρ:Rh)(H:Hp)(ρ':Rh)(H':Hp):Prop where
 pre:∃τ,ρ'.st=ρ.st++τ
 keep:∀a o,H a=some o->a∉ρ->(∀φ,o≠.ext φ)->a∉ρ'∧H' a=some o
theorem Ext.kp{ρ ρ':Rh}{H H':Hp}(e:Ext ρ H ρ' H'):Kp ρ H ρ' H':=⟨e.pre,fun a o h n _=>⟨e.out h n,e.keeps h n⟩⟩
theorem Kp.trans{ρ ρ1 ρ2:Rh}{H H1 H2:Hp}(a:Kp ρ H ρ1 H1)(b:Kp ρ1 H1 ρ2 H2):Kp ρ H ρ2 H2:=by
 refine⟨?_,fun c o h n ne=>let ⟨x,y⟩:=a.keep c o h n ne;b.keep c o y x ne⟩
 obtain⟨τ,h1⟩:=a.pre
 obtain⟨υ,h2⟩:=b.pre
 exact⟨τ++υ,by rw[h2,h1,List.append_assoc]⟩
theorem Kp.at{ρ ρ':Rh}{H H':Hp}(e:Kp ρ H ρ' H'){n:Nat}{a:Addr}(h:ρ.st[n]?=some a):ρ'.st[n]?=some a:=by
 obtain⟨τ,h1⟩:=e.pre
 rw[h1,List.getElem?_append_left (List.getElem?_eq_some_iff.mp h).1];exact h
section
variable{mg:Str->Option Value}{ρ ρ':Rh}{H H':Hp}
theorem Cv.kp(e:Kp ρ H ρ' H'){v:V}{d:D}(h:Cv mg ρ H v d):Cv mg ρ' H' v d:=h.gen (fun _ _=>e.at) e.keep
theorem Cvs.kp(e:Kp ρ H ρ' H'){v:List V}{d:List D}(h:Cvs mg ρ H v d):Cvs mg ρ' H' v d:=h.gen (fun _ _=>e.at) e.keep
end
def zc(mg:Str->Option Value)(ρ:Rh)(H:Hp){α β:Type}(rel:Rh->Hp->β->α->Prop)(Q:β->Hp->Prop)(E:XK):R α×Mo->Prop
 |(.ok a,M')=>∀ρ' H' b,Ext ρ H ρ' H'->J mg ρ' M' H'->rel ρ' H' b a->Q b H'
 |(.exc c,M')=>∀ρ' H' C,Ext ρ H ρ' H'->J mg ρ' M' H'->mg c=some (.ref C)->E (.ref C) none H'
def Go(mg:Str->Option Value)(E:XK){α β:Type}(rel:Rh->Hp->β->α->Prop)(Q:β->Hp->Prop)(ρ:Rh)(H:Hp)(m:DM α)(M:Mo):Prop:=∃r,m M=some r∧zc mg ρ H rel Q E r
section
variable{mg:Str->Option Value}{ρ ρ':Rh}{H H':Hp}{E:XK}{α β γ δ':Type}{rel:Rh->Hp->β->α->Prop}{rel':Rh->Hp->δ'->γ->Prop}{Q:δ'->Hp->Prop}{Q':β->Hp->Prop}
theorem zc.mono{r:R α×Mo}(e:Ext ρ H ρ' H')(h:zc mg ρ H rel Q' E r):zc mg ρ' H' rel Q' E r:=by
 obtain⟨r,M'⟩:=r
 cases r with
 |ok a=>exact fun ρ2 H2 b e2 j c=>h ρ2 H2 b (e.trans e2) j c
 |exc c=>exact fun ρ2 H2 C e2 j m=>h ρ2 H2 C (e.trans e2) j m
theorem Go.bind{m:DM α}{k:α->DM γ}{M:Mo}(g:Go mg E rel' Q ρ H (m>>=k) M)
  (f:∀ρ1 H1 M1 b a,Ext ρ H ρ1 H1->J mg ρ1 M1 H1->rel ρ1 H1 b a->Go mg E rel' Q ρ1 H1 (k a) M1->Q' b H1):Go mg E rel Q' ρ H m M:=by
 obtain⟨r,e,p⟩:=g
 have e:DM.bind m k M=some r:=e
 unfold DM.bind at e
 split at e
 ·cases e
 ·rename_i c M' em
  cases e
  exact⟨_,em,p⟩
 ·rename_i a M' em
  exact⟨_,em,fun ρ1 H1 b x j c=>f ρ1 H1 M' b a x j c ⟨r,e,p.mono x⟩⟩
theorem Go.rd{f:Mo->Option α}{M:Mo}(g:Go mg E rel Q' ρ H (rd f) M):∃a,f M=some a∧∀ρ' H' b,Ext ρ H ρ' H'->J mg ρ' M H'->rel ρ' H' b a->Q' b H':=by
 obtain⟨r,e,p⟩:=g
 obtain⟨a,e1,rfl⟩:=Option.map_eq_some_iff.mp e
 exact⟨a,e1,p⟩
theorem Go.opt{o:Option α}{M:Mo}(g:Go mg E rel Q' ρ H (opt o) M):∃a,o=some a∧∀ρ' H' b,Ext ρ H ρ' H'->J mg ρ' M H'->rel ρ' H' b a->Q' b H':=by
 obtain⟨r,e,p⟩:=g
 obtain⟨a,e1,rfl⟩:=Option.map_eq_some_iff.mp e
 exact⟨a,e1,p⟩
theorem Go.pure{a:α}{M:Mo}(g:Go mg E rel Q' ρ H (pure a) M):∀ρ' H' b,Ext ρ H ρ' H'->J mg ρ' M H'->rel ρ' H' b a->Q' b H':=by
 obtain⟨r,e,p⟩:=g
 have e:some (R.ok a,M)=some r:=e
 cases e
 exact p
end
structure Ev(mg:Str->Option Value)(ρ:Rh)(H:Hp)(σ:St)(δ:ao):Prop where
 len:σ.length=δ.length
 val:∀(i:Nat) d,δ[i]?=some (some d)->∃v,σ[i]?=some (some v)∧Cv mg ρ H v d
theorem Ev.mono{mg:Str->Option Value}{ρ ρ':Rh}{H H':Hp}{σ:St}{δ:ao}(e:Ext ρ H ρ' H')(h:Ev mg ρ H σ δ):Ev mg ρ' H' σ δ:=
 ⟨h.len,fun i d q=>let ⟨v,a,b⟩:=h.val i d q;⟨v,a,b.mono e⟩⟩
theorem Ev.kp{mg:Str->Option Value}{ρ ρ':Rh}{H H':Hp}{σ:St}{δ:ao}(e:Kp ρ H ρ' H')(h:Ev mg ρ H σ δ):Ev mg ρ' H' σ δ:=
 ⟨h.len,fun i d q=>let ⟨v,a,b⟩:=h.val i d q;⟨v,a,b.kp e⟩⟩
theorem Ev.set{mg:Str->Option Value}{ρ:Rh}{H:Hp}{σ:St}{δ:ao}{i:Nat}{v:V}{d:D}(h:Ev mg ρ H σ δ)(c:Cv mg ρ H v d):Ev mg ρ H (σ.set i (some v)) (δ.set i (some d)):=by
 refine⟨by rw[List.length_set,List.length_set,h.len],fun j x q=>?_⟩
 by_cases e:j=i
 ·subst e
  have hj:j<(δ.set j (some d)).length:=(List.getElem?_eq_some_iff.mp q).1
  rw[List.length_set] at hj
  rw[List.getElem?_set_self hj] at q
  cases q
  exact⟨v,List.getElem?_set_self (by rw[h.len];exact hj),c⟩
 ·rw[List.getElem?_set_ne (fun z=>e z.symm)] at q ⊢
  exact h.val j x q
def tD(mg:Str->Option Value)(E:XK){α β:Type}(rel:Rh->Hp->β->α->Prop)(f:ao->DM α):St->Hp->(β->Hp->Prop)->Prop:=fun σ H Q=>
 ∃ρ δ M,Ev mg ρ H σ δ∧J mg ρ M H∧Go mg E rel Q ρ H (f δ) M
def Bv(_:Rh)(_:Hp)(b a:Bool):Prop:=b=a
structure DE(X:Cx)(E:XK)(e:Expr)(f:ao->DM D):Prop where
 h:PE X e (tD X.mg E (Cv X.mg) f)
structure DA(X:Cx)(E:XK)(es:List Expr)(f:ao->DM (List D)):Prop where
 h:QA X es (tD X.mg E (Cvs X.mg) f)
structure DT(X:Cx)(E:XK)(e:Expr)(f:ao->DM Bool):Prop where
 h:PT X e (tD X.mg E Bv f)
theorem PE.mono{X:Cx}{e:Expr}{t t':TE}(h:PE X e t)(f:∀σ H Q,t' σ H Q->t σ H Q):PE X e t':=fun pins s σ H Q I q=>h pins s σ H Q I (f σ H Q q)
theorem PT.mono{X:Cx}{e:Expr}{t t':TT}(h:PT X e t)(f:∀σ H Q,t' σ H Q->t σ H Q):PT X e t':=fun pins s σ H Q I q=>h pins s σ H Q I (f σ H Q q)
theorem PA.mono{X:Cx}{e:List Expr}{t t':TA}(h:PA X e t)(f:∀σ H Q,t' σ H Q->t σ H Q):PA X e t':=fun p pins s σ H Q I q=>h p pins s σ H Q I (f σ H Q q)
mutual
def toPy:D->Option PyData
 |.non=>some .none
 |.bl b=>some (.bool b)
 |.int i=>some (.int i)
 |.str x=>some (.str x)
 |.tup l=>(cV l).map .tuple
 |.lst l=>(cV l).map .list
 |_=>none
def cV:List D->Option (List PyData)
 |[]=>some []
 |d::l=>match toPy d,cV l with
   |some p,some ps=>some (p::ps)
   |_,_=>none
end
mutual
def jL:D->Option PyData
 |.non=>some .none
 |.bl b=>some (.bool b)
 |.int i=>some (.int i)
 |.str x=>some (.str x)
 |.tup l=>(iy l).map .tuple
 |.lst l=>(iy l).map .list
 |.dic [] []=>some (.dict [])
 |.dic [.inl i] [.int j]=>some (.dict [(.int i,.int j)])
 |_=>none
def iy:List D->Option (List PyData)
 |[]=>some []
 |d::l=>match jL d,iy l with
   |some p,some ps=>some (p::ps)
   |_,_=>none
end
section
variable{mg:Str->Option Value}{ρ:Rh}{H:Hp}
theorem nO{α:Type}{p:α}{P:Prop}(e:none=some p):P:=nomatch e
theorem Dg{ks:List Key}{ds:List D}{p:PyData}(e:jL (.dic ks ds)=some p):(ks=[]∧ds=[]∧.dict []=p)∨∃i j,ks=[.inl i]∧ds=[.int j]∧.dict [(.int i,.int j)]=p:=by
 match ks,ds,e with
 |[],[],e=>exact .inl ⟨rfl,rfl,Option.some.inj e⟩
 |[.inl i],[.int j],e=>exact .inr ⟨i,j,rfl,rfl,Option.some.inj e⟩
theorem Cvs.repF {vs:List V}{ds:List D}{ps:List PyData} (h:Cvs mg ρ H vs ds):cV ds=some ps->RepsF H true vs ps:=
 Cvs.rec (motive_1:=fun v d _=>∀ p,toPy d=some p->RepF H true v p) (motive_2:=fun vs ds _=>∀ ps,cV ds=some ps->RepsF H true vs ps)
  (fun _ e=>Option.some.inj e ▸ .non) (fun b _ e=>Option.some.inj e ▸ .bl b) (fun b _ e=>Option.some.inj e ▸ .int b) (fun b _ e=>Option.some.inj e ▸ .str b)
  (fun _ h _ c _ e=>by obtain⟨ps,e1,e2⟩:=Option.map_eq_some_iff.mp e;exact e2 ▸ .tup h (c _ e1)) (fun _ h _ c _ e=>by obtain⟨ps,e1,e2⟩:=Option.map_eq_some_iff.mp e;exact e2 ▸ .lst h (c _ e1))
  (fun _ _ _ _ _ _ e=>nO e) (fun _ _ _ _ _ _ _ e=>nO e) (fun _ _ _ e=>nO e) (fun _ _ e=>nO e) (fun _ _ e=>nO e) (fun _ _ e=>nO e) (fun _ _ e=>nO e)
  (fun _ e=>Option.some.inj e ▸ .nil) (fun {_ d _ l} _ _ i j _ e=>by
    revert e
    show (match toPy d,cV l with | some p,some ps=>some (p::ps) | _,_=>none)=_->_
    cases h1:toPy d with
    |none=>exact fun e=>nO e
    |some p=>cases h2:cV l with
      |none=>exact fun e=>nO e
      |some q=>exact fun e=>Option.some.inj e ▸ .cons (i _ h1) (j _ h2)) h ps
theorem Cv.repF{v:V}{d:D}{p:PyData}(h:Cv mg ρ H v d)(e:toPy d=some p):RepF H true v p:=by
 have z:cV [d]=some [p]:=by
  show (match toPy d,some [] with | some p,some ps=>some (p::ps) | _,_=>none)=_
  rw[e]
 cases Cvs.repF (.cons h .nil) z;assumption
theorem Cvs.repD {vs:List V}{ds:List D}{ps:List PyData} (h:Cvs mg ρ H vs ds):iy ds=some ps->RepsF H false vs ps:=
 Cvs.rec (motive_1:=fun v d _=>∀ p,jL d=some p->RepF H false v p) (motive_2:=fun vs ds _=>∀ ps,iy ds=some ps->RepsF H false vs ps)
  (fun _ e=>Option.some.inj e ▸ .non) (fun b _ e=>Option.some.inj e ▸ .bl b) (fun b _ e=>Option.some.inj e ▸ .int b) (fun b _ e=>Option.some.inj e ▸ .str b)
  (fun _ h _ c _ e=>by obtain⟨ps,e1,e2⟩:=Option.map_eq_some_iff.mp e;exact e2 ▸ .tup h (c _ e1)) (fun _ h _ c _ e=>by obtain⟨ps,e1,e2⟩:=Option.map_eq_some_iff.mp e;exact e2 ▸ .lst h (c _ e1))
  (fun _ h _ c _ _ e=>by
    rcases Dg e with ⟨rfl,rfl,z⟩ | ⟨i,j,rfl,rfl,z⟩
    ·cases c;exact z ▸ .d0 h
    ·cases c with
     |cons c1 c2=>
       cases c2
       cases c1
       exact z ▸ .d1 h) (fun _ _ _ _ _ _ _ e=>nO e) (fun _ _ _ e=>nO e) (fun _ _ e=>nO e) (fun _ _ e=>nO e) (fun _ _ e=>nO e) (fun _ _ e=>nO e)
  (fun _ e=>Option.some.inj e ▸ .nil) (fun {_ d _ l} _ _ i j _ e=>by
    revert e
    show (match jL d,iy l with | some p,some ps=>some (p::ps) | _,_=>none)=_->_
    cases h1:jL d with
    |none=>exact fun e=>nO e
    |some p=>cases h2:iy l with
      |none=>exact fun e=>nO e
      |some q=>exact fun e=>Option.some.inj e ▸ .cons (i _ h1) (j _ h2)) h ps
theorem Cv.repD{v:V}{d:D}{p:PyData}(h:Cv mg ρ H v d)(e:jL d=some p):RepF H false v p:=by
 have z:iy [d]=some [p]:=by
  show (match jL d,some [] with | some p,some ps=>some (p::ps) | _,_=>none)=_
  rw[e]
 cases Cvs.repD (.cons h .nil) z;assumption
end
section
variable{X:Cx}{E:XK}{a b c:Expr}{fa fb fc:ao->DM D}{pos:Pos}
def qG(i:Nat)(δ:ao):DM D:=opt ((δ[i]?).join)
theorem aj(i:Nat){x:Str}(hN:X.N[i]?=some x:=by rfl)(hv:Vis X.env.scope x:=by first | exact Or.inl rfl | exact Or.inr (Or.inl rfl) | exact Or.inr (Or.inr rfl))(hd:(x==("__debug__":Str))=false:=by decide)
  (hcd:(x==("__classdict__":Str))=false:=by decide):DE X E (.Name x pos) (qG i):=⟨PE.mono (pe_var (i:=i) hN hv hd hcd) fun σ H Q h=>by
 obtain⟨ρ,δ,M,ev,j,g⟩:=h
 obtain⟨d,e,q⟩:=g.opt
 have e':δ[i]?=some (some d):=by
  cases z:δ[i]? with
  |none=>rw[z] at e;cases e
  |some o=>rw[z] at e;exact congrArg some e
 obtain⟨v,h1,h2⟩:=ev.val i d e'
 exact⟨v,h1,q ρ H v .refl j h2⟩⟩
theorem fL{e:Expr}{v:V}{d:D}(h:PE X e (tC v))(hc:∀ρ H,Cv X.mg ρ H v d):DE X E e (fun _=>pure d):=⟨PE.mono h fun σ H Q h=>by
 obtain⟨ρ,δ,M,ev,j,g⟩:=h
 exact g.pure ρ H v .refl j (hc _ _)⟩
theorem aA{i j}:DE X E (.Constant (.int i) j pos) (fun _=>pure (.int i)):=fL pe_int fun _ _=>.int i
theorem gb{i j}:DE X E (.Constant (.bool i) j pos) (fun _=>pure (.bl i)):=fL pe_bl fun _ _=>.bl i
theorem nW{j}:DE X E (.Constant .none j pos) (fun _=>pure .non):=fL pe_non fun _ _=>.non
theorem aL{x j}:DE X E (.Constant (.str x) j pos) (fun _=>pure (.str x)):=fL pe_str fun _ _=>.str x
theorem zG{x:Str}{i:Int}{t:Tok}(h:X.mg x=some (.int i t))(hg:Gl X x:=by rfl)(hd:(x==("__debug__":Str))=false:=by decide):DE X E (.Name x pos) (fun _=>pure (.int i)):=fL (Ln h hg hd) fun _ _=>.int i
theorem rW{x:Str}{C:Addr}(h:X.mg x=some (.ref C))(hg:Gl X x:=by rfl)(hd:(x==("__debug__":Str))=false:=by decide):DE X E (.Name x pos) (fun _=>pure (.cls x)):=fL (J1 h hg hd) fun _ _=>.cls h
theorem eY{x:Str}{T:String}(hm:X.mg x=none)(hg:Gl X x:=by rfl)(hv:bootBuiltins x=some (.type T):=by decide +kernel)(hn:x≠"__name__":=by decide)(hdb:(x==("__debug__":Str))=false:=by decide):DE X E (.Name x pos) (fun _=>pure (.ty T)):=
 fL (Lq hm hg hv hn hdb) fun _ _=>.ty T
def rD(mg:Str->Option Value)(E:XK)(g:D->D->DM D):R2:=fun x y H Q=>∃ρ M dx dy,J mg ρ M H∧Cv mg ρ H x dx∧Cv mg ρ H y dy∧Go mg E (Cv mg) Q ρ H (g dx dy) M
def bW(X:Cx)(E:XK)(f:Value->Value->Sem Value)(g:D->D->DM D):Prop:=OpR X f (rD X.mg E g)
theorem yK{g:D->D->DM D}{r:R2}(hr:∀x y H Q,rD X.mg E g x y H Q->r x y H Q){σ:L2.St}{H:Hp}{Q:VK}(h:tD X.mg E (Cv X.mg) (fun δ=>fa δ>>=fun x=>fb δ>>=fun y=>g x y) σ H Q) :
  tOp r (tD X.mg E (Cv X.mg) fa) (tD X.mg E (Cv X.mg) fb) σ H Q:=by
 obtain⟨ρ,δ,M,ev,j,g1⟩:=h
 exact⟨ρ,δ,M,ev,j,g1.bind fun ρ1 H1 M1 x dx e1 j1 c1 g2=>⟨ρ1,δ,M1,ev.mono e1,j1,g2.bind fun ρ2 H2 M2 y dy e2 j2 c2 g3=>hr _ _ _ _ ⟨ρ2,M2,dx,dy,j2,c1.mono e2,c2,g3⟩⟩⟩
theorem aR{op:Operator}{g:D->D->DM D}(ho:bW X E (binaryOp op) g)(ha:DE X E a fa)(hb:DE X E b fb):DE X E (.BinOp a op b pos) (fun δ=>fa δ>>=fun x=>fb δ>>=fun y=>g x y):=
 ⟨PE.mono (pe_op ho ha.h hb.h) fun σ H Q h=>yK (fun _ _ _ _ z=>z) h⟩
theorem dH{op:CmpOp}{g:D->D->DM D}(ho:bW X E (compareOp op) g)(ha:DE X E a fa)(hb:DE X E b fb)(hm:behindInMarks op b=false:=by first | exact nomark _ | rfl):DE X E (.Compare a [op] [b] pos) (fun δ=>fa δ>>=fun x=>fb δ>>=fun y=>g x y):=
 ⟨PE.mono (pe_cmpR ho ha.h hb.h hm) fun σ H Q h=>yK (fun _ _ _ _ z=>z) h⟩
def jw:D->DM Bool
 |.bl b=>pure b
 |_=>stuck
theorem Go.jw{mg:Str->Option Value}{ρ:Rh}{H:Hp}{d:D}{M:Mo}{Q:Bool->Hp->Prop}(g:Go mg E Bv Q ρ H (jw d) M):∃k,d=.bl k∧∀ρ' H',Ext ρ H ρ' H'->J mg ρ' M H'->Q k H':=by
 cases d with
 |bl k=>exact⟨k,rfl,fun ρ' H' e j=>(show Go mg E Bv Q ρ H (Pure.pure k) M from g).pure ρ' H' k e j rfl⟩
 |_=>obtain⟨r,e,_⟩:=g;cases e
theorem dt_of{e:Expr}{f:ao->DM D}{t:TE}(h:PT X e (tTest t))(ht:∀σ H Q,tD X.mg E (Cv X.mg) f σ H Q->t σ H Q):DT X E e (fun δ=>f δ>>=jw):=⟨PT.mono h fun σ H Q h=>by
 obtain⟨ρ,δ,M,ev,j,g1⟩:=h
 refine ht _ _ _ ⟨ρ,δ,M,ev,j,g1.bind fun ρ1 H1 M1 x dx e1 j1 c1 g2=>?_⟩
 obtain⟨k,rfl,q⟩:=Go.jw g2
 cases c1
 exact⟨k,rfl,q ρ1 H1 .refl j1⟩⟩
theorem aW{op:CmpOp}{g:D->D->DM D}(ho:bW X E (compareOp op) g)(ha:DE X E a fa)(hb:DE X E b fb)(hm:behindInMarks op b=false:=by first | exact nomark _ | rfl):DT X E (.Compare a [op] [b] pos) (fun δ=>(fa δ>>=fun x=>fb δ>>=fun y=>g x y)>>=jw):=
 dt_of (pt_cmpR ho ha.h hb.h hm) fun σ H Q h=>yK (fun _ _ _ _ z=>z) h
theorem Mu {g g':D->D->DM D}{σ:L2.St}{H:Hp}{Q:VK} (h:tD X.mg E (Cv X.mg) (fun δ=>fa δ >>= fun x=>fb δ >>= fun y=>g x y >>= fun z=>jw z >>= fun k=>if k then fc δ >>= fun w=>g' y w else pure (.bl false)) σ H Q) :
  tChain (rD X.mg E g) (rD X.mg E g') (tD X.mg E (Cv X.mg) fa) (tD X.mg E (Cv X.mg) fb) (tD X.mg E (Cv X.mg) fc) σ H Q:=by
 obtain⟨ρ,δ,M,ev,j,g1⟩:=h
 refine⟨ρ,δ,M,ev,j,g1.bind fun ρ1 H1 M1 x dx e1 j1 c1 g2=>⟨ρ1,δ,M1,ev.mono e1,j1,g2.bind fun ρ2 H2 M2 y dy e2 j2 c2 g3=>⟨ρ2,M2,dx,dy,j2,c1.mono e2,c2,g3.bind fun ρ3 H3 M3 z dz e3 j3 c3 g4=>?_⟩⟩⟩
 have g5:=g4.bind (rel:=Bv) (Q':=fun k H4=>dz=.bl k∧∃ρ4 M4,Ext ρ3 H3 ρ4 H4∧J X.mg ρ4 M4 H4∧Go X.mg E (Cv X.mg) Q ρ4 H4 (if k then fc δ>>=fun w=>g' dy w else pure (.bl false)) M4)
 have key:∃k,dz=.bl k∧Go X.mg E (Cv X.mg) Q ρ3 H3 (if k then fc δ>>=fun w=>g' dy w else pure (.bl false)) M3:=by
  cases dz with
  |bl k=>exact⟨k,rfl,g4⟩
  |_=>obtain⟨r,e,_⟩:=g4;cases e
 obtain⟨k,rfl,g6⟩:=key
 cases c3
 refine⟨k,rfl,?_⟩
 cases k with
 |false=>exact iteF (g6.pure ρ3 H3 _ .refl j3 (.bl false))
 |true=>
   have g6:Go X.mg E (Cv X.mg) Q ρ3 H3 (fc δ>>=fun w=>g' dy w) M3:=g6
   exact iteT ⟨ρ3,δ,M3,((ev.mono e1).mono e2).mono e3,j3,g6.bind fun ρ4 H4 M4 w dw e4 j4 c4 g7=>⟨ρ4,M4,dy,dw,j4,(c2.mono e3).mono e4,c4,g7⟩⟩
theorem Ed{op op':CmpOp}{g g':D->D->DM D}(ho:bW X E (compareOp op) g)(ho':bW X E (compareOp op') g')(ha:DE X E a fa)(hb:DE X E b fb)(hc:DE X E c fc)(hm:lastMarks [op,op'] [b,c]=false:=by with_unfolding_all rfl) :
  DE X E (.Compare a [op,op'] [b,c] pos) (fun δ=>fa δ>>=fun x=>fb δ>>=fun y=>g x y>>=fun z=>jw z>>=fun k=>if k then fc δ>>=fun w=>g' y w else pure (.bl false)):=
 ⟨PE.mono (pe_chain ho ho' ha.h hb.h hc.h hm) fun σ H Q h=>Mu h⟩
theorem qD{op op':CmpOp}{g g':D->D->DM D}(ho:bW X E (compareOp op) g)(ho':bW X E (compareOp op') g')(ha:DE X E a fa)(hb:DE X E b fb)(hc:DE X E c fc)(hm:lastMarks [op,op'] [b,c]=false:=by with_unfolding_all rfl) :
  DT X E (.Compare a [op,op'] [b,c] pos) (fun δ=>(fa δ>>=fun x=>fb δ>>=fun y=>g x y>>=fun z=>jw z>>=fun k=>if k then fc δ>>=fun w=>g' y w else pure (.bl false))>>=jw):=
 dt_of (pt_chain ho ho' ha.h hb.h hc.h hm) fun σ H Q h=>Mu h
def xU:D->Mo->Option Bool
 |.non,_=>some false
 |.bl b,_=>some b
 |.int i,_=>some (i != 0)
 |.str y,_=>if y.length≤sizeLine then some ((y.length:Int) != 0) else none
 |.tup l,_=>some (!l.isEmpty)
 |.lst l,_=>some (!l.isEmpty)
 |.scr l,_=>some (!l.isEmpty)
 |.dic ks _,_=>some (!ks.isEmpty)
 |.ref n,M=>match M[n]? with
   |some (.lst l)=>some (!l.isEmpty)
   |some (.dic ks _)=>some (!ks.isEmpty)
   |_=>none
 |_,_=>none
theorem vp {α β:Type}{ks:List α}{xs:List β} (h:ks.length=xs.length):(ks.zip xs).isEmpty=ks.isEmpty:=by
 cases ks with
 |nil=>simp
 |cons k ks=>cases xs with
   |nil=>simp at h
   |cons x xs=>rfl
theorem Cvs.empty{mg:Str->Option Value}{ρ:Rh}{H:Hp}{vs:List V}{ds:List D}(c:Cvs mg ρ H vs ds):vs.isEmpty=ds.isEmpty:=by cases c<;>rfl
theorem KD {K:PySem.W.Frag}{mg:Str->Option Value}{ρ:Rh}{H:Hp}{M:Mo}{x:V}{d:D}{k:Bool} (j:J mg ρ M H) (h:Cv mg ρ H x d) (e:xU d M=some k):TruV K x H k:=by
 cases h with
 |non=>cases e;rfl
 |bl b=>cases e;rfl
 |int i=>cases e;rfl
 |str y=>
   unfold xU at e
   dsimp only at e
   split at e
   ·cases e;exact⟨‹_›,rfl⟩
   ·cases e
 |tup n h c=>cases e;exact .inr (.inl ⟨_,SqT.of h,by rw[c.empty]⟩)
 |lst n h c=>cases e;exact .inl ⟨_,SqL.of h,by rw[c.empty]⟩
 |scr n h=>cases e;exact .inl ⟨_,.inl h,by simp⟩
 |dic n h l c=>cases e;exact .inr (.inr ⟨_,h,by rw[vp l]⟩)
 | ref q=>
   rename_i n a
   unfold xU at e
   dsimp only at e
   split at e
   ·rename_i l hl
    cases e
    obtain⟨xs,h,c⟩:=j.obj n a _ q hl
    exact .inl ⟨_,SqL.of h,by rw[c.empty]⟩
   ·rename_i ks l hl
    cases e
    obtain⟨xs,h,z,c⟩:=j.obj n a _ q hl
    exact .inr (.inr ⟨_,h,by rw[vp z]⟩)
   ·cases e
 |obj=>cases e
 |cls=>cases e
 |ty=>cases e
 |exn=>cases e
theorem bH(ha:DE X E a fa)(he:∀whole,isTrue a X.env whole=(do let v ←whole;standAt a.pos;holding [v] (truthy v))):DT X E a (fun δ=>fa δ>>=fun x=>rd (xU x)):=⟨PT.mono (pt_truth ha.h he) fun σ H Q h=>by
 obtain⟨ρ,δ,M,ev,j,g1⟩:=h
 refine⟨ρ,δ,M,ev,j,g1.bind fun ρ1 H1 M1 x dx e1 j1 c1 g2=>?_⟩
 obtain⟨k,e,q⟩:=g2.rd
 exact⟨k,KD j1 c1 e,q ρ1 H1 k .refl j1 rfl⟩⟩
variable{ta tb:ao->DM Bool}
theorem bZ(ha:DT X E a ta):DT X E (.UnaryOp .Not a pos) (fun δ=>ta δ>>=fun k=>pure (!k)):=⟨PT.mono (pt_not ha.h) fun σ H Q h=>by
 obtain⟨ρ,δ,M,ev,j,g1⟩:=h
 refine⟨ρ,δ,M,ev,j,g1.bind fun ρ1 H1 M1 x dx e1 j1 c1 g2=>?_⟩
 have c1:x=dx:=c1
 subst c1
 exact g2.pure ρ1 H1 _ .refl j1 rfl⟩
structure DW(X:Cx)(E:XK)(e:Expr)(f:ao->DM Bool):Prop where
 h:PW X e (tD X.mg E Bv f)
theorem PW.mono{e:Expr}{t t':TT}(h:PW X e t)(f:∀σ H Q,t' σ H Q->t σ H Q):PW X e t':=fun w pins s σ H Q I q=>h w pins s σ H Q I (f σ H Q q)
theorem DW.dt{e:Expr}(h:DW X E e ta):DT X E e ta:=⟨PW.pt h.h⟩
theorem GJ(ha:DT X E a ta):DW X E (.BoolOp .And [a] pos) ta:=⟨pw_and1 ha.h⟩
theorem dq(ha:DT X E a ta):DW X E (.BoolOp .Or [a] pos) ta:=⟨pw_or1 ha.h⟩
variable{rest:List Expr}
theorem I8(ha:DT X E a ta)(hb:DW X E (.BoolOp .And (b::rest) pos) tb):DW X E (.BoolOp .And (a::b::rest) pos) (fun δ=>ta δ>>=fun k=>if k then tb δ else pure false):=⟨PW.mono (pw_and ha.h hb.h) fun σ H Q h=>by
 obtain⟨ρ,δ,M,ev,j,g1⟩:=h
 refine⟨ρ,δ,M,ev,j,g1.bind fun ρ1 H1 M1 x dx e1 j1 c1 g2=>?_⟩
 have c1:x=dx:=c1
 subst c1
 cases x with
 |true=>exact iteT ⟨ρ1,δ,M1,ev.mono e1,j1,g2⟩
 |false=>exact iteF (Go.pure (a:=false) g2 ρ1 H1 _ .refl j1 rfl)⟩
theorem cY(ha:DT X E a ta)(hb:DW X E (.BoolOp .Or (b::rest) pos) tb):DW X E (.BoolOp .Or (a::b::rest) pos) (fun δ=>ta δ>>=fun k=>if k then pure true else tb δ):=⟨PW.mono (pw_or ha.h hb.h) fun σ H Q h=>by
 obtain⟨ρ,δ,M,ev,j,g1⟩:=h
 refine⟨ρ,δ,M,ev,j,g1.bind fun ρ1 H1 M1 x dx e1 j1 c1 g2=>?_⟩
 have c1:x=dx:=c1
 subst c1
 cases x with
 |false=>exact iteF ⟨ρ1,δ,M1,ev.mono e1,j1,g2⟩
 |true=>exact iteT (Go.pure (a:=true) g2 ρ1 H1 _ .refl j1 rfl)⟩
theorem ir{op:BoolOp}(ha:DE X E a fa):DE X E (.BoolOp op [a] pos) fa:=⟨pe_one ha.h⟩
theorem Go.isB{mg:Str->Option Value}{ρ:Rh}{H:Hp}{α β:Type}{rel:Rh->Hp->β->α->Prop}{Q:β->Hp->Prop}{d:D}{M:Mo}{f:Bool->DM α}(g:Go mg E rel Q ρ H (L3.jw d>>=f) M):∃k,d=.bl k∧Go mg E rel Q ρ H (f k) M:=by
 cases d with
 |bl k=>exact⟨k,rfl,g⟩
 |_=>obtain⟨r,e,_⟩:=g;cases e
theorem ig(ha:DE X E a fa)(hb:DE X E (.BoolOp .And (b::rest) pos) fb):DE X E (.BoolOp .And (a::b::rest) pos) (fun δ=>fa δ>>=fun x=>jw x>>=fun k=>if k then fb δ else pure (.bl false)):=⟨PE.mono (pe_and ha.h hb.h) fun σ H Q h=>by
 obtain⟨ρ,δ,M,ev,j,g1⟩:=h
 refine⟨ρ,δ,M,ev,j,g1.bind fun ρ1 H1 M1 x dx e1 j1 c1 g2=>?_⟩
 obtain⟨k,rfl,g3⟩:=Go.isB g2
 cases c1
 refine⟨k,rfl,?_⟩
 cases k with
 |true=>exact iteT ⟨ρ1,δ,M1,ev.mono e1,j1,g3⟩
 |false=>exact iteF (Go.pure (a:=D.bl false) g3 ρ1 H1 _ .refl j1 (.bl false))⟩
theorem Iv(ha:DE X E a fa):DE X E (.UnaryOp .Not a pos) (fun δ=>fa δ>>=fun x=>jw x>>=fun k=>pure (.bl (!k))):=⟨PE.mono (pe_not ha.h) fun σ H Q h=>by
 obtain⟨ρ,δ,M,ev,j,g1⟩:=h
 refine⟨ρ,δ,M,ev,j,g1.bind fun ρ1 H1 M1 x dx e1 j1 c1 g2=>?_⟩
 obtain⟨k,rfl,g3⟩:=Go.isB g2
 cases c1
 exact⟨k,rfl,g3.pure ρ1 H1 _ .refl j1 (.bl _)⟩⟩
theorem jB(hc:DT X E c ta)(ha:DE X E a fa)(hb:DE X E b fb):DE X E (.IfExp c a b pos) (fun δ=>ta δ>>=fun k=>if k then fa δ else fb δ):=⟨PE.mono (pe_ifExp hc.h ha.h hb.h) fun σ H Q h=>by
 obtain⟨ρ,δ,M,ev,j,g1⟩:=h
 refine⟨ρ,δ,M,ev,j,g1.bind fun ρ1 H1 M1 x dx e1 j1 c1 g2=>?_⟩
 have c1:x=dx:=c1
 subst c1
 cases x with
 |true=>exact iteT ⟨ρ1,δ,M1,ev.mono e1,j1,g2⟩
 |false=>exact iteF ⟨ρ1,δ,M1,ev.mono e1,j1,g2⟩⟩
theorem ak:DA X E [] (fun _=>pure []):=⟨⟨PA.mono J8.h fun σ H Q h=>by
 obtain⟨ρ,δ,M,ev,j,g⟩:=h
 exact g.pure ρ H [] .refl j .nil⟩⟩
theorem aa{es:List Expr}{fs:ao->DM (List D)}(ha:DE X E a fa)(hr:DA X E es fs)(hs:notStar a=true:=by rfl):DA X E (a::es) (fun δ=>fa δ>>=fun x=>fs δ>>=fun xs=>pure (x::xs)):=⟨⟨PA.mono (Nk ha.h hr.h hs).h fun σ H Q h=>by
 obtain⟨ρ,δ,M,ev,j,g1⟩:=h
 exact⟨ρ,δ,M,ev,j,g1.bind fun ρ1 H1 M1 x dx e1 j1 c1 g2=>⟨ρ1,δ,M1,ev.mono e1,j1,g2.bind fun ρ2 H2 M2 xs dxs e2 j2 c2 g3=>g3.pure ρ2 H2 _ .refl j2 (.cons (c1.mono e2) c2)⟩⟩⟩⟩
def dB{α:Type}(l:List α):Bool:=decide (l.length≤sizeLine)
def eQ(l:List D):DM D:=opt (if dB l then some (.tup l) else none)
def m6(l:List D):DM D:=opt (if dB l then some (.lst l) else none)
def dD(l:List D):DM D:=fun M=>if dB l then some (.ok (.ref M.length),M++[.lst l]) else none
theorem sZ{l:List D}{d e:D}(h:(if dB l then some d else none)=some e):l.length≤sizeLine∧d=e:=by
 split at h
 ·cases h;exact⟨of_decide_eq_true ‹_›,rfl⟩
 ·cases h
variable{es:List Expr}{fs:ao->DM (List D)}
theorem bz{x1}(h:DA X E es fs):DE X E (.Tuple es x1 pos) (fun δ=>fs δ>>=eQ):=⟨PE.mono (Hk h.h) fun σ H Q h=>by
 obtain⟨ρ,δ,M,ev,j,g1⟩:=h
 refine⟨ρ,δ,M,ev,j,g1.bind fun ρ1 H1 M1 xs dxs e1 j1 c1 g2=>?_⟩
 obtain⟨d,e,q⟩:=Go.opt g2
 obtain⟨hz,rfl⟩:=sZ e
 exact⟨by rw[c1.len];exact hz,fun p hp=>q ρ1 _ _ (.lay hp) (j1.lay _ hp) (.tup (j1.fresh hp) upd_same (c1.mono (.lay hp)))⟩⟩
theorem bU(h:DA X E es fs):DE X E (.List es pos) (fun δ=>fs δ>>=m6):=⟨PE.mono (yP h.h) fun σ H Q h=>by
 obtain⟨ρ,δ,M,ev,j,g1⟩:=h
 refine⟨ρ,δ,M,ev,j,g1.bind fun ρ1 H1 M1 xs dxs e1 j1 c1 g2=>?_⟩
 obtain⟨d,e,q⟩:=Go.opt g2
 obtain⟨hz,rfl⟩:=sZ e
 exact⟨by rw[c1.len];exact hz,fun p hp=>q ρ1 _ _ (.lay hp) (j1.lay _ hp) (.lst (j1.fresh hp) upd_same (c1.mono (.lay hp)))⟩⟩
theorem Go.dD{mg:Str->Option Value}{ρ:Rh}{H:Hp}{M:Mo}{Q:VK}{l:List D}{xs:List V}{p:Addr}(g:Go mg E (Cv mg) Q ρ H (dD l) M)(j:J mg ρ M H)(c:Cvs mg ρ H xs l)(hp:H p=none):l.length≤sizeLine∧Q (.ref p) (upd H p (.lst xs)):=by
 obtain⟨r,e,q⟩:=g
 unfold L3.dD at e
 split at e
 ·cases e
  refine⟨of_decide_eq_true ‹_›,?_⟩
  have x:Ext ρ H (ρ.put p) (upd H p (.lst xs)):=.put hp
  refine q _ _ _ x (j.put hp ⟨xs,upd_same,c.mono x⟩) (.ref ?_)
  show (ρ.st++[p])[_]?=_
  rw[←j.len];simp
 ·cases e
theorem Go.mkR_len{mg:Str->Option Value}{ρ:Rh}{H:Hp}{M:Mo}{Q:VK}{l:List D}(g:Go mg E (Cv mg) Q ρ H (L3.dD l) M):l.length≤sizeLine:=by
 obtain⟨r,e,q⟩:=g
 unfold L3.dD at e
 split at e
 ·exact of_decide_eq_true ‹_›
 ·cases e
theorem kO(h:DA X E es fs):DE X E (.List es pos) (fun δ=>fs δ>>=dD):=⟨PE.mono (yP h.h) fun σ H Q h=>by
 obtain⟨ρ,δ,M,ev,j,g1⟩:=h
 refine⟨ρ,δ,M,ev,j,g1.bind fun ρ1 H1 M1 xs dxs e1 j1 c1 g2=>?_⟩
 exact⟨by rw[c1.len];exact g2.mkR_len,fun p hp=>(g2.dD j1 c1 hp).2⟩⟩
end
section
variable{X:Cx}{E:XK}{mg:Str->Option Value}{ρ:Rh}{H:Hp}{M:Mo}
theorem Go.rdb(g:Go mg E rel Q ρ H (L3.rd f>>=k) M):∃a,f M=some a∧Go mg E rel Q ρ H (k a) M:=by
 obtain⟨r,e,p⟩:=g
 have e:DM.bind _ _ M=some r:=e
 unfold DM.bind L3.rd at e
 cases h:f M with
 |none=>rw[h] at e;cases e
 |some a=>rw[h] at e;exact⟨a,rfl,r,e,p⟩
theorem bW.of{f:Value->Value->Sem Value}{g:D->D->Mo->Option D}(hr:OpR X f r)
  (h:∀x y H Q ρ M dx dy d,J X.mg ρ M H->Cv X.mg ρ H x dx->Cv X.mg ρ H y dy->g dx dy M=some d->(∀ρ' H' v,Ext ρ H ρ' H'->J X.mg ρ' M H'->Cv X.mg ρ' H' v d->Q v H')->r x y H Q):bW X E f (fun x y=>rd (g x y)):=by
 intro pins s σ H x y v u Q I rx ry q
 obtain⟨ρ,M,dx,dy,j,cx,cy,go⟩:=q
 obtain⟨d,e,p⟩:=go.rd
 exact hr pins s σ H x y v u Q I rx ry (h x y H Q ρ M dx dy d j cx cy e p)
def bh:D->Mo->Option (List D)
 |.lst l,_=>some l
 |.ref n,M=>match M[n]? with
   |some (.lst l)=>some l
   |_=>none
 |_,_=>none
theorem cP (j:J mg ρ M H) {l:List D} (c:Cv mg ρ H x d) (e:bh d M=some l):∃ a xs,x=.ref a∧H a=some (.lst xs)∧Cvs mg ρ H xs l:=by
 cases c with
 |lst n h c=>cases e;exact⟨_,_,rfl,h,c⟩
 | ref q=>
   unfold bh at e
   dsimp only at e
   split at e
   ·rename_i l' hl
    cases e
    obtain⟨xs,h,c⟩:=j.obj _ _ _ q hl
    exact⟨_,_,rfl,h,c⟩
   ·cases e
 |_=>cases e
theorem J.notup(j:J mg ρ M H)(h:H p=Option.some (HO.tup xs)):p∉ρ:=fun z=>by
 rcases z with z | z
 rotate_left
 ·obtain⟨_,ys,e⟩:=j.vol p z
  rw[h] at e;cases e
 obtain⟨n,hn⟩:=List.mem_iff_getElem?.mp z
 have lt:n<M.length:=by rw[←j.len];exact (List.getElem?_eq_some_iff.mp hn).1
 have c:=j.obj n p M[n] hn (List.getElem?_eq_getElem lt)
 cases hm:M[n] with
 |lst l=>rw[hm] at c;obtain⟨xs,e,_⟩:=c;rw[h] at e;cases e
 |dic ks l=>rw[hm] at c;obtain⟨xs,e,_⟩:=c;rw[h] at e;cases e
 |ins c' ns l=>rw[hm] at c;obtain⟨_,_,_,_,e,_⟩:=c;rw[h] at e;cases e
def KH(l:List D):Option D:=if dB l then some (.tup l) else none
def En(l:List D):Option D:=if dB l then some (.lst l) else none
def cL:D->D->Mo->Option D
 |.int i,.int j,_=>some (.int (i+j))
 |.str a,.str b,_=>if a.length+b.length≤sizeLine then some (.str (a++b)) else none
 |.tup l,.tup m,_=>KH (l++m)
 |x,y,M=>match bh x M,bh y M with
   |some l,some m=>En (l++m)
   |_,_=>none
theorem Dq (h:cL x y M=some d):(∃ i j,x=.int i∧y=.int j∧d=.int (i + j))∨(∃ a b,x=.str a∧y=.str b∧a.length + b.length≤sizeLine∧d=.str (a++b))∨(∃ l m,x=.tup l∧y=.tup m∧l.length + m.length≤sizeLine∧d=.tup (l++m)) ∨
  ∃l m,bh x M=some l∧bh y M=some m∧l.length+m.length≤sizeLine∧d=.lst (l++m):=by
 unfold cL at h
 split at h
 ·cases h;exact .inl ⟨_,_,rfl,rfl,rfl⟩
 ·split at h
  ·cases h;exact .inr (.inl ⟨_,_,rfl,rfl,‹_›,rfl⟩)
  ·cases h
 ·obtain⟨hz,rfl⟩:=sZ h
  rw[List.length_append] at hz
  exact .inr (.inr (.inl ⟨_,_,rfl,rfl,hz,rfl⟩))
 ·split at h
  ·rename_i l m h1 h2
   obtain⟨hz,rfl⟩:=sZ h
   rw[List.length_append] at hz
   exact .inr (.inr (.inr ⟨l,m,h1,h2,hz,rfl⟩))
  ·cases h
theorem bu:bW X E (binaryOp .Add) (fun x y=>rd (cL x y)):=by
 refine bW.of (op_add.or (op_add_str.or (Hc.or op_cat))) fun x y H Q ρ M dx dy d j cx cy e q=>?_
 rcases Dq e with ⟨i,k,rfl,rfl,rfl⟩ | ⟨i,k,rfl,rfl,hz,rfl⟩ | ⟨l,m,rfl,rfl,hz,rfl⟩ | ⟨l,m,h1,h2,hz,rfl⟩
 ·cases cx;cases cy
  exact .inl ⟨_,_,rfl,rfl,q ρ H _ .refl j (.int _)⟩
 ·cases cx;cases cy
  exact .inr (.inl ⟨_,_,rfl,rfl,hz,q ρ H _ .refl j (.str _)⟩)
 ·cases cx with | tup n1 a1 c1=>cases cy with | tup n2 a2 c2=>
  refine .inr (.inr (.inl ⟨_,_,_,_,rfl,rfl,a1,a2,by rw[c1.len,c2.len];exact hz,fun p H' S hp=>?_⟩))
  exact q ρ H' _ (.same S) (j.same S) (.tup ((j.same S).notup hp) hp ((c1.append c2).mono (.same S)))
 ·obtain⟨a1,x1,rfl,a2,c1⟩:=cP j cx h1
  obtain⟨b1,y1,rfl,b2,c2⟩:=cP j cy h2
  refine .inr (.inr (.inr ⟨_,_,_,_,rfl,rfl,a2,b2,by rw[c1.len,c2.len];exact hz,fun p hp=>?_⟩))
  exact q ρ _ _ (.lay hp) (j.lay _ hp) (.lst (j.fresh hp) upd_same ((c1.append c2).mono (.lay hp)))
def cM(C:Int->Int->Bool)(g:Int->Int->D):D->D->Mo->Option D
 |.int i,.int j,_=>if C i j then some (g i j) else none
 |_,_,_=>none
theorem ut(h:cM C g x y M=some d):∃i j,x=.int i∧y=.int j∧C i j=true∧d=g i j:=by
 unfold cM at h
 split at h
 ·split at h
  ·cases h;exact⟨_,_,rfl,rfl,‹_›,rfl⟩
  ·cases h
 ·cases h
theorem pG{f:Value->Value->Sem Value}{C:Int->Int->Bool}{g:Int->Int->Int}{P:Int->Int->Prop}(hr:OpR X f (rI P fun i j=>.int (g i j)))(hc:∀i j,C i j=true->P i j):bW X E f (fun x y=>rd (cM C (fun i j=>.int (g i j)) x y)):=
 bW.of hr fun x y H Q ρ M dx dy d j cx cy e q=>by
  obtain⟨i,k,rfl,rfl,hh,rfl⟩:=ut e
  cases cx;cases cy
  exact⟨_,_,rfl,rfl,hc _ _ hh,q ρ H _ .refl j (.int _)⟩
theorem qP{f:Value->Value->Sem Value}{g:Int->Int->Int}(hr:OpR X f (rI0 fun i j=>.int (g i j))):bW X E f (fun x y=>rd (cM (fun _ _=>true) (fun i j=>.int (g i j)) x y)):=
 bW.of hr fun x y H Q ρ M dx dy d j cx cy e q=>by
  obtain⟨i,k,rfl,rfl,hh,rfl⟩:=ut e
  cases cx;cases cy
  exact⟨_,_,rfl,rfl,q ρ H _ .refl j (.int _)⟩
theorem pF{f:Value->Value->Sem Value}{g:Int->Int->Bool}(hr:OpR X f (rI0 fun i j=>.bl (g i j))):bW X E f (fun x y=>rd (cM (fun _ _=>true) (fun i j=>.bl (g i j)) x y)):=
 bW.of hr fun x y H Q ρ M dx dy d j cx cy e q=>by
  obtain⟨i,k,rfl,rfl,hh,rfl⟩:=ut e
  cases cx;cases cy
  exact⟨_,_,rfl,rfl,q ρ H _ .refl j (.bl _)⟩
abbrev oX:D->D->Mo->Option D:=cM (fun _ _=>true) fun i j=>.int (i-j)
theorem pI:bW X E (binaryOp .Sub) (fun x y=>rd (oX x y)):=qP op_sub
def gQ(i j:Int):Bool:=!(decide (Builtin.Int.intBits i > shortFactorBits)&&decide (Builtin.Int.intBits j > shortFactorBits)&&Builtin.Int.intTooBig (Builtin.Int.intBits i+Builtin.Int.intBits j))
theorem gQ.ok(h:gQ i j=true):IntMulOk i j:=fun z=>by
 unfold gQ at h
 rw[z] at h;cases h
abbrev xf:D->D->Mo->Option D:=cM gQ fun i j=>.int (i*j)
theorem uy:bW X E (binaryOp .Mult) (fun x y=>rd (xf x y)):=pG Hf fun i j h=>gQ.ok h
def ph(i j:Int):Bool:=decide (0<j)&&!Builtin.divisionGoesByPylong i j
theorem Et:OpR X (binaryOp .FloorDiv) (rI (fun i j=>ph i j=true) fun i j=>.int (i / j)):=opI fun i j _ _ _ _ _ hc q=>by
 unfold ph at hc
 have h0:0<j:=by
  have:=(Bool.and_eq_true _ _).mp hc
  exact of_decide_eq_true this.1
 have h1:Builtin.divisionGoesByPylong i j=false:=by
  have:=(Bool.and_eq_true _ _).mp hc
  simpa using this.2
 have e:i.fdiv j=i / j:=Int.fdiv_eq_ediv_of_nonneg i (Int.le_of_lt h0)
 exact floordiv_int (Int.ne_of_gt h0) (by rw[e];exact q) (.inl h1)
abbrev sE:D->D->Mo->Option D:=cM ph fun i j=>.int (i / j)
theorem mq:bW X E (binaryOp .FloorDiv) (fun x y=>rd (sE x y)):=pG Et fun i j h=>h
abbrev n8:D->D->Mo->Option D:=cM (fun _ j=>decide (0<j)) fun i j=>.int (i%j)
theorem fZ:bW X E (binaryOp .Mod) (fun x y=>rd (n8 x y)):=pG op_mod fun i j h=>of_decide_eq_true h
def Gd(i j:Int):Bool:=decide (0≤j∧j≤1000000∧i.natAbs<2^64)
abbrev EY:D->D->Mo->Option D:=cM Gd fun i j=>.int (i^j.toNat)
theorem Hj:bW X E (binaryOp .Pow) (fun x y=>rd (EY x y)):=pG op_pow fun i j h=>of_decide_eq_true (p:=0≤j∧j≤1000000∧i.natAbs<2^64) h
abbrev sU:D->D->Mo->Option D:=cM (fun _ _=>true) fun i j=>.bl (decide (i<j))
abbrev vd:D->D->Mo->Option D:=cM (fun _ _=>true) fun i j=>.bl (decide (i≤j))
abbrev u9:D->D->Mo->Option D:=cM (fun _ _=>true) fun i j=>.bl (decide (j<i))
abbrev BK:D->D->Mo->Option D:=cM (fun _ _=>true) fun i j=>.bl (decide (j≤i))
theorem lq:bW X E (compareOp .Lt) (fun x y=>rd (sU x y)):=pF op_lt
theorem jq:bW X E (compareOp .LtE) (fun x y=>rd (vd x y)):=pF op_le
theorem sY:bW X E (compareOp .Gt) (fun x y=>rd (u9 x y)):=pF op_gt
theorem xm:bW X E (compareOp .GtE) (fun x y=>rd (BK x y)):=pF op_ge
def eqP(x y:D):Option Bool:=match toPy x,toPy y with
 |some p,some q=>if p.canLay0&&q.canLay0&&decide (p.depth≤60) then some (PyData.eqv p q) else none
 |_,_=>none
def eqB:D->D->Option Bool
 |.str a,.str b=>some (decide (a=b))
 |x,y=>eqP x y
def cg(x y:D)(_:Mo):Option D:=(eqB x y).map .bl
def iu(x y:D)(_:Mo):Option D:=(eqB x y).map fun b=>.bl (!b)
theorem Ja (h:eqP x y=some b):∃ p q,toPy x=some p∧toPy y=some q∧p.canLay0=true∧q.canLay0=true∧p.depth≤60∧b=PyData.eqv p q:=by
 unfold eqP at h
 split at h
 ·rename_i p q h1 h2
  split at h
  ·rename_i hc
   cases h
   simp only[Bool.and_eq_true,decide_eq_true_eq] at hc
   exact⟨p,q,h1,h2,hc.1.1,hc.1.2,hc.2,rfl⟩
  ·cases h
 ·cases h
theorem I9(h:eqB x y=some b):(∃a c,x=.str a∧y=.str c∧b=decide (a=c))∨eqP x y=some b:=by
 unfold eqB at h
 split at h
 ·cases h;exact .inl ⟨_,_,rfl,rfl,rfl⟩
 ·exact .inr h
theorem HJ:decide (V.str a=V.str c)=decide (a=c):=by
 rw[Bool.eq_iff_iff];simp
theorem yO(h1:OpR X f (fun x y H Q=>scal x y=true∧Q (.bl (n ^^ decide (x=y))) H))(h2:OpR X f (Fe X.K n)):bW X E f (fun x y=>rd fun _=>(eqB x y).map fun b=>.bl (n ^^ b)):=by
 intro pins s σ H x y v u Q I rx ry q
 obtain⟨ρ,M,dx,dy,j,cx,cy,g⟩:=q
 obtain⟨d,e,q⟩:=Go.rd g
 obtain⟨b,hb,rfl⟩:=Option.map_eq_some_iff.mp e
 rcases I9 hb with ⟨a,c,rfl,rfl,rfl⟩ | hb
 ·cases cx;cases cy
  refine h1 pins s σ H _ _ v u Q I rx ry ⟨rfl,?_⟩
  rw[HJ]
  exact q ρ H _ .refl j (.bl _)
 ·obtain⟨p,p',k1,k2,h3,h4,h5,rfl⟩:=Ja hb
  refine h2 pins s σ H x y v u Q I rx ry ⟨p,p',(cx.repF k1).toRep,(cy.repF k2).toRep,h3,h4,h5,?_⟩
  have:=q ρ H _ .refl j (.bl _)
  cases n
  ·simpa using this
  ·simpa using this
theorem bf(hu:X.A.units+64<cLine):bW X E (compareOp .Eq) (fun x y=>rd (cg x y)):=by
 have h:=yO (X:=X) (E:=E) (n:=false) (f:=compareOp .Eq) (fun pins s σ H x y v u Q I rx ry q=>op_eq (X:=X) pins s σ H x y v u Q I rx ry ⟨q.1,by simpa using q.2⟩) (JT hu)
 have e:(fun x y=>(rd (cg x y):DM D))=fun x y=>rd fun _=>(eqB x y).map fun b=>.bl (false ^^ b):=by
  funext x y
  show rd _=rd _
  congr 1
  funext M
  simp only[cg,Bool.false_xor,Bool.true_xor]
 rw[e];exact h
theorem dW(hu:X.A.units+64<cLine):bW X E (compareOp .NotEq) (fun x y=>rd (iu x y)):=by
 have h:=yO (X:=X) (E:=E) (n:=true) (f:=compareOp .NotEq) (fun pins s σ H x y v u Q I rx ry q=>op_ne (X:=X) pins s σ H x y v u Q I rx ry ⟨q.1,by simpa using q.2⟩) (JX hu)
 have e:(fun x y=>(rd (iu x y):DM D))=fun x y=>rd fun _=>(eqB x y).map fun b=>.bl (true ^^ b):=by
  funext x y
  show rd _=rd _
  congr 1
  funext M
  simp only[iu,Bool.false_xor,Bool.true_xor]
 rw[e];exact h
def Mv:D->Bool
 |.non=>true
 |_=>false
theorem Jk(c:Cv mg ρ H x d):decide (x=.non)=Mv d:=by cases c<;>rfl
def isD(x y:D)(_:Mo):Option D:=match y with
 |.non=>some (.bl (Mv x))
 |_=>none
theorem Cp:bW X E (compareOp .Is) (fun x y=>rd (isD x y)):=bW.of op_isN fun x y H Q ρ M dx dy d j cx cy e q=>by
 unfold isD at e
 split at e
 ·cases e;cases cy
  exact⟨rfl,by rw[Jk cx];exact q ρ H _ .refl j (.bl _)⟩
 ·cases e
theorem Cvs.rep(c:Cv mg ρ H v d):∀n,Cvs mg ρ H (List.replicate n v) (List.replicate n d)
 |0=>.nil
 |n+1=>.cons c (Cvs.rep c n)
def zZ(l:List D)(k:Int):Option (List D):=if decide (-(2^63)≤k∧k<2^63∧l.length*k.toNat≤sizeLine) then some (List.replicate k.toNat l).flatten else none
theorem Cvs.reps{vs:List V}{ds:List D}(c:Cvs mg ρ H vs ds):∀n,Cvs mg ρ H (List.replicate n vs).flatten (List.replicate n ds).flatten
 |0=>.nil
 |n+1=>by rw[List.replicate_succ,List.replicate_succ,List.flatten_cons,List.flatten_cons];exact c.append (Cvs.reps c n)
def qN(x y:D)(M:Mo):Option (List D):=match bh x M,y with
 |some l,.int k=>zZ l k
 |_,_=>none
theorem yN {l:List D} (h:qN x y M=some l):∃ m k,bh x M=some m∧y=.int k∧(-(2 ^ 63)≤k∧k<2 ^ 63∧m.length * k.toNat≤sizeLine)∧l=(List.replicate k.toNat m).flatten:=by
 unfold qN at h
 split at h
 ·rename_i m k h1
  unfold zZ at h
  split at h
  ·rename_i hk
   cases h
   exact⟨m,k,h1,rfl,of_decide_eq_true hk,rfl⟩
  ·cases h
 ·cases h
theorem Hg:bW X E (binaryOp .Mult) (fun x y=>rd (fun M=>(qN x y M).map .lst)):=bW.of op_rep fun x y H Q ρ M dx dy d j cx cy e q=>by
 obtain⟨l,e1,rfl⟩:=Option.map_eq_some_iff.mp e
 obtain⟨m,k,h1,rfl,⟨h2,h3,h4⟩,rfl⟩:=yN e1
 obtain⟨a,xs,rfl,ha,c⟩:=cP j cx h1
 cases cy
 refine⟨_,_,_,rfl,rfl,ha,h2,h3,by rw[c.len];exact h4,fun p hp=>?_⟩
 exact q ρ _ _ (.lay hp) (j.lay _ hp) (.lst (j.fresh hp) upd_same ((Cvs.reps c _).mono (.lay hp)))
def JG(x y:D):DM D:=rd (qN x y)>>=dD
theorem Hh:bW X E (binaryOp .Mult) JG:=by
 intro pins s σ H x y v u Q I rx ry q
 obtain⟨ρ,M,dx,dy,j,cx,cy,go⟩:=q
 obtain⟨l,e1,g⟩:=Go.rdb go
 obtain⟨m,k,h1,rfl,⟨h2,h3,h4⟩,rfl⟩:=yN e1
 obtain⟨a,xs,rfl,ha,c⟩:=cP j cx h1
 cases cy
 exact op_rep (X:=X) pins s σ H _ _ v u Q I rx ry ⟨_,_,_,rfl,rfl,ha,h2,h3,by rw[c.len];exact h4,fun p hp=>(g.dD j (Cvs.reps c _) hp).2⟩
def qO:D->Mo->Option D
 |.int i,_=>some (.int (-i))
 |_,_=>none
theorem ik(ha:DE X E a fa):DE X E (.UnaryOp .USub a pos) (fun δ=>fa δ>>=fun x=>rd (qO x)):=⟨PE.mono (pe_un un_neg ha.h) fun σ H Q h=>by
 obtain⟨ρ,δ,M,ev,j,g1⟩:=h
 refine⟨ρ,δ,M,ev,j,g1.bind fun ρ1 H1 M1 x dx e1 j1 c1 g2=>?_⟩
 obtain⟨d,e,q⟩:=g2.rd
 unfold qO at e
 split at e
 ·cases e;cases c1
  exact⟨_,rfl,q ρ1 H1 _ .refl j1 (.int _)⟩
 ·cases e⟩
theorem Cvs.at(c:Cvs mg ρ H vs ds)(h:atI ds i=some d):∃v,atI vs i=some v∧Cv mg ρ H v d:=by
 unfold atI at h ⊢
 rw[c.len]
 obtain⟨n,hn,e⟩:=Option.bind_eq_some_iff.mp h
 obtain⟨v,e2,cv⟩:=c.get e
 exact⟨v,by rw[hn];exact e2,cv⟩
def bV:D->D->Mo->Option D
 |.tup l,.int i,_=>atI l i
 |.scr l,.int i,_=>(atI l i).map .int
 |x,.int i,M=>(bh x M).bind fun l=>atI l i
 |_,_,_=>none
def Mt(X:Cx)(E:XK)(g:D->D->DM D):Prop:=IxR X (rD X.mg E g)
theorem bA:Mt X E (fun x y=>rd (bV x y)):=by
 intro value slice pins s σ H x y v u Q I rx ry q hs
 obtain⟨ρ,M,dx,dy,j,cx,cy,go⟩:=q
 obtain⟨d,e,p⟩:=go.rd
 unfold bV at e
 split at e
 ·cases cy
  cases cx with | tup n a c=>
  obtain⟨w,e2,cw⟩:=c.at e
  exact ix_tup (X:=X) value slice pins s σ H _ _ v u Q I rx ry ⟨_,_,_,_,rfl,rfl,SqT.of a,e2,p ρ H _ .refl j cw⟩ hs
 ·rename_i l i
  cases cy
  cases cx with | scr n a=>
  obtain⟨z,e1,rfl⟩:=Option.map_eq_some_iff.mp e
  have e2:atI (l.map V.int) i=some (V.int z):=by
   unfold atI at e1 ⊢
   rw[List.length_map]
   obtain⟨n,hn,e⟩:=Option.bind_eq_some_iff.mp e1
   rw[hn]
   show (List.map V.int _)[n]?=_
   rw[List.getElem?_map,e];rfl
  exact ix_list (X:=X) value slice pins s σ H _ _ v u Q I rx ry ⟨_,_,_,_,rfl,rfl,.inl a,e2,p ρ H _ .refl j (.int z)⟩ hs
 ·cases cy
  obtain⟨l,h1,e1⟩:=Option.bind_eq_some_iff.mp e
  obtain⟨a,xs,rfl,ha,c⟩:=cP j cx h1
  obtain⟨w,e2,cw⟩:=c.at e1
  exact ix_list (X:=X) value slice pins s σ H _ _ v u Q I rx ry ⟨_,_,_,_,rfl,rfl,SqL.of ha,e2,p ρ H _ .refl j cw⟩ hs
 ·cases e
theorem aY(hi:Mt X E g)(ha:DE X E a fa)(hb:DE X E b fb)(hs:PlainIx b:=by exact fun _ _=>rfl):DE X E (.Subscript a b pos) (fun δ=>fa δ>>=fun x=>fb δ>>=fun y=>g x y):=
 ⟨PE.mono (pe_ix hi ha.h hb.h hs) fun σ H Q h=>yK (fun _ _ _ _ z=>z) h⟩
def uT:D->DM (Option Int)
 |.int i=>pure (some i)
 |_=>stuck
def cutD(xs:List D)(lo hi:Option Int):List D:=(xs.drop (HT.sIx xs.length 0 lo)).take (HT.sIx xs.length xs.length hi-HT.sIx xs.length 0 lo)
theorem Cvs.cut(c:Cvs mg ρ H vs ds)(lo hi:Option Int):Cvs mg ρ H (cutV vs lo hi) (cutD ds lo hi):=by
 unfold cutV cutD
 rw[c.len]
 exact (c.drop _).take _
structure DP(X:Cx)(E:XK)(e:Option Expr)(f:ao->DM (Option Int)):Prop where
 h:PO X e (tD X.mg E (fun _ _ (b a:Option Int)=>b=a) f)
theorem PO.mono(h:PO X e t)(f:∀σ H Q,t' σ H Q->t σ H Q):PO X e t':=fun pins s σ H Q I q=>h pins s σ H Q I (f σ H Q q)
theorem fX:DP X E none (fun _=>pure none):=⟨PO.mono po_none fun σ H Q h=>by
 obtain⟨ρ,δ,M,ev,j,g⟩:=h
 exact g.pure ρ H none .refl j rfl⟩
theorem fY(ha:DE X E a fa):DP X E (some a) (fun δ=>fa δ>>=uT):=⟨PO.mono (po_some ha.h) fun σ H Q h=>by
 obtain⟨ρ,δ,M,ev,j,g1⟩:=h
 refine⟨ρ,δ,M,ev,j,g1.bind fun ρ1 H1 M1 x dx e1 j1 c1 g2=>?_⟩
 cases dx with
 |int i=>cases c1;exact⟨i,rfl,Go.pure (a:=some i) g2 ρ1 H1 _ .refl j1 rfl⟩
 |_=>obtain⟨r,e,_⟩:=g2;cases e⟩
def oV(lo hi:Option Int):D->Mo->Option D
 |.tup l,_=>some (.tup (cutD l lo hi))
 |x,M=>(bh x M).map fun l=>.lst (cutD l lo hi)
theorem Nv:SlR X (fun x lo hi H Q=>∃ρ M dx d,J X.mg ρ M H∧Cv X.mg ρ H x dx∧oV lo hi dx M=some d∧∀ρ' H' v,Ext ρ H ρ' H'->J X.mg ρ' M H'->Cv X.mg ρ' H' v d->Q v H'):=by
 intro pins s σ H x v vl vu lo hi sl Q I rx hs pl pu h
 obtain⟨ρ,M,dx,d,j,c,e,q⟩:=h
 unfold oV at e
 split at e
 ·cases e
  cases c with | tup n a c=>
  refine HF (X:=X) pins s σ H _ v vl vu lo hi sl Q I rx hs pl pu ⟨_,_,rfl,a,fun p H' S hp=>?_⟩
  exact q ρ H' _ (.same S) (j.same S) (.tup ((j.same S).notup hp) hp ((c.cut lo hi).mono (.same S)))
 ·obtain⟨l,h1,rfl⟩:=Option.map_eq_some_iff.mp e
  obtain⟨a,xs,rfl,ha,c⟩:=cP j c h1
  refine sl_list (X:=X) pins s σ H _ v vl vu lo hi sl Q I rx hs pl pu ⟨_,_,rfl,SqL.of ha,fun p hp=>?_⟩
  exact q ρ _ _ (.lay hp) (j.lay _ hp) (.lst (j.fresh hp) upd_same ((c.cut lo hi).mono (.lay hp)))
theorem dI{fa:ao->DM D}{lo hi:Option Expr}{fl fh:ao->DM (Option Int)}(ha:DE X E a fa)(hl:DP X E lo fl)(hh:DP X E hi fh) :
  DE X E (.Subscript a (.Slice lo hi none p2) pos) (fun δ=>fa δ>>=fun x=>fl δ>>=fun l=>fh δ>>=fun h=>rd (oV l h x)):=⟨PE.mono (pe_slice Nv ha.h hl.h hh.h) fun σ H Q h=>by
 obtain⟨ρ,δ,M,ev,j,g1⟩:=h
 refine⟨ρ,δ,M,ev,j,g1.bind fun ρ1 H1 M1 x dx e1 j1 c1 g2=>⟨ρ1,δ,M1,ev.mono e1,j1,g2.bind fun ρ2 H2 M2 l dl e2 j2 c2 g3=>⟨ρ2,δ,M2,(ev.mono e1).mono e2,j2,g3.bind fun ρ3 H3 M3 h dh e3 j3 c3 g4=>?_⟩⟩⟩
 have c2:l=dl:=c2
 have c3:h=dh:=c3
 subst c2 c3
 obtain⟨d,e,q⟩:=g4.rd
 exact⟨ρ3,M3,dx,d,j3,(c1.mono e2).mono e3,e,q⟩⟩
end
inductive Fl where
 |nx (δ:ao) | rt (d:D) | bk (δ:ao) | ct (δ:ao)
def o7(mg:Str->Option Value)(ρ:Rh)(H:Hp)(D:Ends)(E:XK):R Fl×Mo->Prop
 |(.ok (.nx δ'),M')=>∀ρ' H' σ',Ext ρ H ρ' H'->J mg ρ' M' H'->Ev mg ρ' H' σ' δ'->D.nx σ' H'
 |(.ok (.bk δ'),M')=>∀ρ' H' σ',Ext ρ H ρ' H'->J mg ρ' M' H'->Ev mg ρ' H' σ' δ'->D.bk σ' H'
 |(.ok (.ct δ'),M')=>∀ρ' H' σ',Ext ρ H ρ' H'->J mg ρ' M' H'->Ev mg ρ' H' σ' δ'->D.ct σ' H'
 |(.ok (.rt d),M')=>∀ρ' H' v,Ext ρ H ρ' H'->J mg ρ' M' H'->Cv mg ρ' H' v d->D.rt v H'
 |(.exc c,M')=>∀ρ' H' C,Ext ρ H ρ' H'->J mg ρ' M' H'->mg c=some (.ref C)->E (.ref C) none H'
def bL(mg:Str->Option Value)(E:XK)(D:Ends)(ρ:Rh)(H:Hp)(m:DM Fl)(M:Mo):Prop:=∃r,m M=some r∧o7 mg ρ H D E r
section
variable{mg:Str->Option Value}{ρ ρ':Rh}{H H':Hp}{E:XK}{α β:Type}{rel:Rh->Hp->β->α->Prop}{D D':Ends}{Q':β->Hp->Prop}{M:Mo}
theorem o7.mono(e:Ext ρ H ρ' H')(h:o7 mg ρ H D E r):o7 mg ρ' H' D E r:=by
 obtain⟨r,M'⟩:=r
 cases r with
 |ok a=>cases a<;>exact fun ρ2 H2 b e2 j c=>h ρ2 H2 b (e.trans e2) j c
 |exc c=>exact fun ρ2 H2 C e2 j m=>h ρ2 H2 C (e.trans e2) j m
theorem bL.bind(g:bL mg E D ρ H (m>>=k) M)
  (f:∀ρ1 H1 M1 b a,Ext ρ H ρ1 H1->J mg ρ1 M1 H1->rel ρ1 H1 b a->bL mg E D ρ1 H1 (k a) M1->Q' b H1):Go mg E rel Q' ρ H m M:=by
 obtain⟨r,e,p⟩:=g
 have e:DM.bind m k M=some r:=e
 unfold DM.bind at e
 split at e
 ·cases e
 ·rename_i c M' em
  cases e
  exact⟨_,em,p⟩
 ·rename_i a M' em
  exact⟨_,em,fun ρ1 H1 b x j c=>f ρ1 H1 M' b a x j c ⟨r,e,p.mono x⟩⟩
theorem bL.pure(g:bL mg E D ρ H (pure a) M):o7 mg ρ H D E (.ok a,M):=by
 obtain⟨r,e,p⟩:=g
 have e:some (R.ok a,M)=some r:=e
 cases e
 exact p
def kh(f g:ao->DM Fl):ao->DM Fl:=fun δ=>f δ>>=fun r=>match r with
 |.nx δ'=>g δ'
 |r=>Pure.pure r
theorem bL.seq(g:bL mg E D ρ H (f>>=k) M)
  (hn:∀δ' ρ1 H1 M1 σ1,Ext ρ H ρ1 H1->J mg ρ1 M1 H1->Ev mg ρ1 H1 σ1 δ'->bL mg E D ρ1 H1 (k (.nx δ')) M1->D'.nx σ1 H1)
  (hb:∀δ' ρ1 H1 M1 σ1,Ext ρ H ρ1 H1->J mg ρ1 M1 H1->Ev mg ρ1 H1 σ1 δ'->bL mg E D ρ1 H1 (k (.bk δ')) M1->D'.bk σ1 H1)
  (hc:∀δ' ρ1 H1 M1 σ1,Ext ρ H ρ1 H1->J mg ρ1 M1 H1->Ev mg ρ1 H1 σ1 δ'->bL mg E D ρ1 H1 (k (.ct δ')) M1->D'.ct σ1 H1)
  (hr:∀d ρ1 H1 M1 v,Ext ρ H ρ1 H1->J mg ρ1 M1 H1->Cv mg ρ1 H1 v d->bL mg E D ρ1 H1 (k (.rt d)) M1->D'.rt v H1):bL mg E D' ρ H f M:=by
 obtain⟨r,e,p⟩:=g
 have e:DM.bind f k M=some r:=e
 unfold DM.bind at e
 split at e
 ·cases e
 ·rename_i c M' em
  cases e
  exact⟨_,em,p⟩
 ·rename_i a M' em
  refine⟨_,em,?_⟩
  cases a with
  |nx δ'=>exact fun ρ1 H1 b x j c=>hn δ' ρ1 H1 M' b x j c ⟨r,e,p.mono x⟩
  |bk δ'=>exact fun ρ1 H1 b x j c=>hb δ' ρ1 H1 M' b x j c ⟨r,e,p.mono x⟩
  |ct δ'=>exact fun ρ1 H1 b x j c=>hc δ' ρ1 H1 M' b x j c ⟨r,e,p.mono x⟩
  |rt d=>exact fun ρ1 H1 b x j c=>hr d ρ1 H1 M' b x j c ⟨r,e,p.mono x⟩
end
def tS(mg:Str->Option Value)(E:XK)(f:ao->DM Fl):TS:=fun D σ H=>∃ρ δ M,Ev mg ρ H σ δ∧J mg ρ M H∧bL mg E D ρ H (f δ) M
structure DS(X:Cx)(E:XK)(st:Stmt)(f:ao->DM Fl):Prop where
 h:PS X st (tS X.mg E f)
structure DSs(X:Cx)(E:XK)(st:List Stmt)(f:ao->DM Fl):Prop where
 h:PSs X st (tS X.mg E f)
theorem PS.mono(h:PS X e t)(f:∀D σ H,t' D σ H->t D σ H):PS X e t':=fun pins s σ H D I q=>h pins s σ H D I (f D σ H q)
theorem PSs.mono(h:PSs X e t)(f:∀D σ H,t' D σ H->t D σ H):PSs X e t':=fun pins s σ H D I q=>h pins s σ H D I (f D σ H q)
section
variable{X:Cx}{E:XK}{st:Stmt}{rest:List Stmt}{f g:ao->DM Fl}{e:Expr}{fe:ao->DM D}{pos:Pos}
theorem aV:DSs X E [] (fun δ=>pure (.nx δ)):=⟨PSs.mono pss_nil fun D σ H h=>by
 obtain⟨ρ,δ,M,ev,j,g⟩:=h
 exact g.pure ρ H σ .refl j ev⟩
theorem aD(h:DS X E st f):DSs X E [st] f:=⟨pss_one h.h⟩
theorem au(h1:DS X E st f)(h2:DSs X E rest g):DSs X E (st::rest) (kh f g):=⟨PSs.mono (pss_cons h1.h h2.h) fun D σ H h=>by
 obtain⟨ρ,δ,M,ev,j,g1⟩:=h
 refine⟨ρ,δ,M,ev,j,g1.seq (fun δ' ρ1 H1 M1 σ1 e1 j1 ev1 g2=>⟨ρ1,δ',M1,ev1,j1,g2⟩) (fun δ' ρ1 H1 M1 σ1 e1 j1 ev1 g2=>?_) (fun δ' ρ1 H1 M1 σ1 e1 j1 ev1 g2=>?_) (fun d ρ1 H1 M1 v e1 j1 c1 g2=>?_)⟩
 ·exact bL.pure g2 ρ1 H1 σ1 .refl j1 ev1
 ·exact bL.pure g2 ρ1 H1 σ1 .refl j1 ev1
 ·exact bL.pure g2 ρ1 H1 v .refl j1 c1⟩
theorem aP(he:DE X E e fe):DS X E (.Return (some e) pos) (fun δ=>fe δ>>=fun d=>pure (.rt d)):=⟨PS.mono (L2.ps_ret he.h) fun D σ H h=>by
 obtain⟨ρ,δ,M,ev,j,g1⟩:=h
 exact⟨ρ,δ,M,ev,j,g1.bind fun ρ1 H1 M1 v d e1 j1 c1 g2=>g2.pure ρ1 H1 v .refl j1 c1⟩⟩
theorem cN(he:DE X E e fe)(hs:swapsWith e none pos.line X.env=pure false:=by rfl):DS X E (.Expr e pos) (fun δ=>fe δ>>=fun _=>pure (.nx δ)):=⟨PS.mono (ps_expr he.h hs) fun D σ H h=>by
 obtain⟨ρ,δ,M,ev,j,g1⟩:=h
 exact⟨ρ,δ,M,ev,j,g1.bind fun ρ1 H1 M1 v d e1 j1 c1 g2=>g2.pure ρ1 H1 σ .refl j1 (ev.mono e1)⟩⟩
theorem aZ(hN:X.N.Nodup)(hi:X.N[i]?=some x)(hx:Loc X.env.scope x)(he:DE X E e fe)(hs:swapsWith e (some (.Name x pos')) pos.line X.env=pure false:=by rfl)(hf:X.fn x=true∨X.env.scope.names.lookup x=some .local:=by first | exact .inl rfl | exact .inr rfl | assumption) :
  DS X E (.Assign [.Name x pos'] e pos) (fun δ=>fe δ>>=fun d=>pure (.nx (δ.set i (some d)))):=⟨PS.mono (ps_set hN hi hx he.h hs hf) fun D σ H h=>by
 obtain⟨ρ,δ,M,ev,j,g1⟩:=h
 exact⟨ρ,δ,M,ev,j,g1.bind fun ρ1 H1 M1 v d e1 j1 c1 g2=>g2.pure ρ1 H1 _ .refl j1 ((ev.mono e1).set c1)⟩⟩
theorem bx(hc:DT X E c tc)(ha:DSs X E a f)(hb:DSs X E b g):DS X E (.If c a b pos) (fun δ=>tc δ>>=fun k=>if k then f δ else g δ):=⟨PS.mono (L2.ps_if hc.h ha.h hb.h) fun D σ H h=>by
 obtain⟨ρ,δ,M,ev,j,g1⟩:=h
 refine⟨ρ,δ,M,ev,j,g1.bind fun ρ1 H1 M1 x dx e1 j1 c1 g2=>?_⟩
 have c1:x=dx:=c1
 subst c1
 cases x with
 |true=>exact iteT ⟨ρ1,δ,M1,ev.mono e1,j1,g2⟩
 |false=>exact iteF ⟨ρ1,δ,M1,ev.mono e1,j1,g2⟩⟩
def tG(mg:Str->Option Value)(E:XK)(fg:D->ao->DM ao):TG:=fun v σ H Q=>∃ρ δ M d,Ev mg ρ H σ δ∧J mg ρ M H∧Cv mg ρ H v d∧Go mg E (Ev mg) Q ρ H (fg d δ) M
def Ox(mg:Str->Option Value)(E:XK)(fg:List D->ao->DM ao):TGs:=fun vs σ H Q=>∃ρ δ M ds,Ev mg ρ H σ δ∧J mg ρ M H∧Cvs mg ρ H vs ds∧Go mg E (Ev mg) Q ρ H (fg ds δ) M
structure DG(X:Cx)(E:XK)(tg:Expr)(fg:D->ao->DM ao):Prop where
 h:PG X tg (tG X.mg E fg)
structure DGs(X:Cx)(E:XK)(tg:List Expr)(fg:List D->ao->DM ao):Prop where
 h:PGs X tg (Ox X.mg E fg)
theorem PG.mono(h:PG X tg t)(f:∀v σ H Q,t' v σ H Q->t v σ H Q):PG X tg t':=fun pins s σ H v u Q I r q=>h pins s σ H v u Q I r (f v σ H Q q)
theorem PGs.mono(h:PGs X tg t)(f:∀v σ H Q,t' v σ H Q->t v σ H Q):PGs X tg t':=fun pins s σ H v u Q I r q=>h pins s σ H v u Q I r (f v σ H Q q)
def gN(i:Nat):D->ao->DM ao:=fun d δ=>pure (δ.set i (some d))
theorem bC(hN:X.N.Nodup)(hi:X.N[i]?=some x)(hx:Loc X.env.scope x)(hf:X.fn x=true∨X.env.scope.names.lookup x=some .local:=by first | exact .inl rfl | exact .inr rfl | assumption):DG X E (.Name x pos) (gN i):=
 ⟨PG.mono (pg_name hN hi hx hf) fun v σ H Q h=>by
  obtain⟨ρ,δ,M,d,ev,j,c,g1⟩:=h
  exact Go.pure g1 ρ H _ .refl j (ev.set c)⟩
def gf:List D->ao->DM ao
 |[],δ=>pure δ
 |_,_=>stuck
def b7(f:D->ao->DM ao)(fs:List D->ao->DM ao):List D->ao->DM ao
 |d::l,δ=>f d δ>>=fun δ'=>fs l δ'
 |_,_=>stuck
theorem kW:DGs X E [] gf:=⟨PGs.mono pgs_nil fun vs σ H Q h=>by
 obtain⟨ρ,δ,M,ds,ev,j,c,g1⟩:=h
 cases c with
 |nil=>exact⟨rfl,Go.pure (a:=δ) g1 ρ H σ .refl j ev⟩
 |cons _ _=>obtain⟨r,e,_⟩:=g1;cases e⟩
theorem cC (h1:DG X E e fg) (h2:DGs X E es fgs) (hs:(assignEach (e::es) X.env).map (·.2)=assign e X.env::(assignEach es X.env).map (·.2):=by rfl):DGs X E (e::es) (b7 fg fgs):=
 ⟨PGs.mono (pgs_cons h1.h h2.h hs) fun vs σ H Q h=>by
  obtain⟨ρ,δ,M,ds,ev,j,c,g1⟩:=h
  cases c with
  |nil=>obtain⟨r,e,_⟩:=g1;cases e
  |cons c1 c2=>
    have g1:Go X.mg E (Ev X.mg) Q ρ H (fg _ δ>>=fun δ'=>fgs _ δ') M:=g1
    exact⟨_,_,rfl,ρ,δ,M,_,ev,j,c1,g1.bind fun ρ1 H1 M1 σ1 δ1 e1 j1 ev1 g2=>⟨ρ1,δ1,M1,_,ev1,j1,c2.mono e1,g2⟩⟩⟩
def gT(n:Nat)(fs:List D->ao->DM ao):D->ao->DM ao
 |.tup l,δ=>if l.length=n then fs l δ else stuck
 |_,_=>stuck
theorem nY (hc:X.calm=true) (h:DGs X E es fgs) (hn:(assignEach es X.env).length=n:=by rfl) (hst:(assignEach es X.env).findIdx? (·.1)=none:=by rfl):DG X E (.Tuple es k pos) (gT n fgs):=
 ⟨PG.mono (pg_tup hc h.h hn hst) fun v σ H Q h=>by
  obtain⟨ρ,δ,M,d,ev,j,c,g1⟩:=h
  cases c with
  | tup nx a c=>
    have g1:Go X.mg E (Ev X.mg) Q ρ H (if _ then _ else _) M:=g1
    split at g1
    ·rename_i hl
     exact⟨_,_,rfl,SqT.of a,by rw[c.len];exact hl,ρ,δ,M,_,ev,j,c,g1⟩
    ·obtain⟨r,e,_⟩:=g1;cases e
  |_=>obtain⟨r,e,_⟩:=g1;cases e⟩
def Ac:D->D->D->DM Unit
 | .ref n,.int k,v=>fun M=>match M[n]? with
   |some (.lst l)=>match ixN l.length k with
     |some j=>some (.ok (),M.set n (.lst (l.set j v)))
     |none=>none
   |_=>none
 |_,_,_=>stuck
def Ge(mg:Str->Option Value)(E:XK)(gs:D->D->D->DM Unit):TSet:=fun o i v H Q=>∃ρ M dO di dv,J mg ρ M H∧Cv mg ρ H o dO∧Cv mg ρ H i di∧Cv mg ρ H v dv∧Go mg E (fun _ _ (_:Unit) (_:Unit)=>True) (fun _ H'=>Q H') ρ H (gs dO di dv) M
theorem tX:PSet X (Ge X.mg E Ac):=by
 intro pins s σ H o i v ov iv u Q I ro ri rv h
 obtain⟨ρ,M,dO,di,dv,j,co,ci,cv,r,e,p⟩:=h
 cases co with
 | ref hn=>
   cases ci with
   | int k=>
     rename_i n a
     have e:(match M[n]? with
      |some (.lst l)=>match ixN l.length k with
        |some j=>some (R.ok (),M.set n (.lst (l.set j dv)))
        |none=>none
      |_=>none)=some r:=e
     split at e
     ·rename_i l hl
      split at e
      ·rename_i q hq
       cases e
       obtain⟨xs,hx,c⟩:=j.obj _ _ _ hn hl
       have x:Ext ρ H ρ (upd H a (.lst (xs.set q v))):=.upd (List.mem_of_getElem? hn)
       exact set_list (X:=X) pins s σ H _ _ v ov iv u Q I ro ri rv ⟨_,_,_,q,rfl,rfl,hx,by rw[c.len];exact hq,p ρ _ () x (j.upd hn ⟨_,upd_same,(c.set cv q).mono x⟩) trivial⟩
      ·cases e
     ·cases e
   |_=>cases e
 |_=>cases e
theorem rY (ho:DE X E o fo) (hi:DE X E i fi) (hs:PSet X (Ge X.mg E gs))
  (ha:∀v,assign (.Subscript o i pos) X.env v=(do
    let ov ←holding [v] (eval o X.env)
    let iv ←holding [v,ov] (eval i X.env)
    standAt pos
    holding [v,ov,iv] (setItem ov iv v)
    release [v,ov,iv] []):=by intro _;rfl):DG X E (.Subscript o i pos) (fun d δ=>fo δ>>=fun o=>fi δ>>=fun i=>gs o i d>>=fun _=>pure δ):=
 ⟨PG.mono (pg_sub ho.h hi.h hs ha) fun v σ H Q h=>by
  obtain⟨ρ,δ,M,d,ev,j,c,g1⟩:=h
  exact⟨ρ,δ,M,ev,j,g1.bind fun ρ1 H1 M1 x dx e1 j1 c1 g2=>⟨ρ1,δ,M1,ev.mono e1,j1,g2.bind fun ρ2 H2 M2 y dy e2 j2 c2 g3=>⟨ρ2,M2,dx,dy,d,j2,c1.mono e2,c2,(c.mono e1).mono e2,g3.bind fun ρ3 H3 M3 _ _ e3 j3 _ g4=>g4.pure ρ3 H3 σ .refl j3 (((ev.mono e1).mono e2).mono e3)⟩⟩⟩⟩
theorem jk(he:DE X E e fe)(hg:DG X E tg fg)(hs:swapsWithSole [tg] e pos.line X.env=pure false:=by rfl)(hw:swappedStores [tg] e X.env=pure none:=by rfl)
  (h1:(assignEach [tg] X.env).map (·.2)=[assign tg X.env]:=by rfl):DS X E (.Assign [tg] e pos) (fun δ=>fe δ>>=fun d=>fg d δ>>=fun δ'=>pure (.nx δ')):=⟨PS.mono (ps_asg he.h hg.h hs hw h1) fun D σ H h=>by
 obtain⟨ρ,δ,M,ev,j,g1⟩:=h
 exact⟨ρ,δ,M,ev,j,g1.bind fun ρ1 H1 M1 v d e1 j1 c1 g2=>⟨ρ1,δ,M1,d,ev.mono e1,j1,c1,g2.bind fun ρ2 H2 M2 σ2 δ2 e2 j2 ev2 g3=>g3.pure ρ2 H2 σ2 .refl j2 ev2⟩⟩⟩
def JZ(i j:Nat)(fa:ao->DM (List D)):ao->DM Fl:=fun δ=>fa δ>>=fun l=>match l with
 |[v,w]=>pure (.nx ((δ.set i (some v)).set j (some w)))
 |_=>stuck
theorem Bs {kt k2 pt2} (hc:X.calm=true) (hN:X.N.Nodup) (hi:X.N[i]?=some x) (hj:X.N[j]?=some y) (hij:i≠j)
  (hx:X.env.scope.names.lookup x=some .local) (hy:X.env.scope.names.lookup y=some .local) (ha:DA X E [a,b] fa)
  (hw:swappedStores [.Tuple [.Name x px,.Name y py] kt pt] (.Tuple [a,b] k2 pt2) X.env=pure (some [x,y]))
  (hs:swapsWithSole [.Tuple [.Name x px,.Name y py] kt pt] (.Tuple [a,b] k2 pt2) pos.line X.env=pure false:=by rfl) :
  DS X E (.Assign [.Tuple [.Name x px,.Name y py] kt pt] (.Tuple [a,b] k2 pt2) pos) (JZ i j fa):=⟨PS.mono (ps_par hc hN hi hj hij hx hy ha.h.h hw hs) fun D σ H h=>by
 obtain⟨ρ,δ,M,ev,j,g1⟩:=h
 refine⟨ρ,δ,M,ev,j,bL.bind g1 fun ρ1 H1 M1 v d e1 j1 c1 g2=>?_⟩
 cases c1 with
 |nil=>obtain⟨r,e,_⟩:=g2;cases e
 | cons c1 c2=>cases c2 with
   |nil=>obtain⟨r,e,_⟩:=g2;cases e
   |cons c2 c3=>cases c3 with
     |nil=>exact⟨_,_,rfl,bL.pure (a:=.nx _) g2 ρ1 H1 _ .refl j1 (((ev.mono e1).set c1).set c2)⟩
     |cons _ _=>obtain⟨r,e,_⟩:=g2;cases e⟩
theorem xn:bW X E (inplaceOp .Add) (fun x y=>rd (cM (fun _ _=>true) (fun i j=>.int (i+j)) x y)):=qP iop_add
theorem Eu:bW X E (inplaceOp .Sub) (fun x y=>rd (oX x y)):=qP iop_sub
end
inductive Itn where
 |fix (l:List D) | dyn (n:Nat)
def Itn.next:Itn->Nat->Mo->Option (Option D)
 |.fix l,i,_=>some l[i]?
 |.dyn n,i,M=>match M[n]? with
   |some (.lst l)=>some l[i]?
   |_=>none
structure ItOk(mg:Str->Option Value)(ρ:Rh)(H:Hp)(Jt:It)(it:Itn):Prop where
 item:∀(i:Nat) ρ' H' M' d,Kp ρ H ρ' H'->J mg ρ' M' H'->it.next i M'=some (some d)->Jt.go i H'∧∀x H2,Jt.yld i H' x H2->Ext ρ' H' ρ' H2∧J mg ρ' M' H2∧Cv mg ρ' H2 x d
 stop:∀(i:Nat) ρ' H' M',Kp ρ H ρ' H'->J mg ρ' M' H'->it.next i M'=some none->Jt.stop i H'
def tI(mg:Str->Option Value)(E:XK)(fi:ao->DM Itn):TI:=fun σ H R=>tD mg E (ItOk mg) fi σ H R
structure DI(X:Cx)(E:XK)(tg it:Expr)(fi:ao->DM Itn):Prop where
 h:PI X tg it (tI X.mg E fi)
theorem PI.mono(h:PI X tg e t)(f:∀σ H Q,t' σ H Q->t σ H Q):PI X tg e t':=fun pins s σ H Q I q=>h pins s σ H Q I (f σ H Q q)
theorem Jo{K:PySem.W.Frag}{mg:Str->Option Value}{ρ:Rh}{H:Hp}{a:Addr}{xs:List V}{ds:List D}(n:a∉ρ)(h:H a=some (.tup xs))(c:Cvs mg ρ H xs ds):ItOk mg ρ H (Itt K a) (.fix ds) where
 item:=fun i ρ' H' M' d e j q=>by
  have hq:ds[i]?=some d:=Option.some.inj q
  obtain⟨v,hv,cv⟩:=c.get hq
  have h':=(e.keep _ _ h n nofun).2
  refine⟨⟨xs,v,SqT.of h',hv⟩,fun x H2 y=>?_⟩
  obtain⟨rfl,y⟩:=y
  have:=y xs (SqT.of h')
  rw[hv] at this;cases this
  exact⟨.refl,j,cv.kp e⟩
 stop:=fun i ρ' H' M' e j q=>by
  have hq:ds[i]?=none:=Option.some.inj q
  exact⟨xs,SqT.of (e.keep _ _ h n nofun).2,by rw[c.len];exact List.getElem?_eq_none_iff.mp hq⟩
def qT(lo:Int)(n:Nat):List D:=(List.range n).map fun i=>.int (lo+(i:Nat))
theorem yV{lo:Int}{n i:Nat}:(qT lo n)[i]?=if i<n then some (.int (lo+(i:Nat))) else none:=by
 unfold qT
 rw[List.getElem?_map]
 by_cases h:i<n
 ·rw[if_pos h,List.getElem?_range h];rfl
 ·rw[if_neg h,List.getElem?_eq_none_iff.mpr (by simp;lia)];rfl
theorem Jm {mg:Str->Option Value}{lo:Int}{n:Nat}:ItOk mg ρ H (Itr lo n) (.fix (qT lo n)) where
 item:=fun i ρ' H' M' d e j q=>by
  have hq:(qT lo n)[i]?=some d:=Option.some.inj q
  rw[yV] at hq
  split at hq
  ·rename_i h
   cases hq
   refine⟨h,fun x H2 y=>?_⟩
   obtain⟨rfl,rfl⟩:=y
   exact⟨.refl,j,.int _⟩
  ·cases hq
 stop:=fun i ρ' H' M' e j q=>by
  have hq:(qT lo n)[i]?=none:=Option.some.inj q
  rw[yV] at hq
  split at hq
  ·cases hq
  ·rename_i h;exact Nat.not_lt.mp h
section
variable{X:Cx}{E:XK}{tg:Expr}
def Aa(i:Int):Bool:=decide (-(2^62)≤i∧i<2^62)
def qR:List D->Option Itn
 |[.int j]=>if Aa j then some (.fix (qT 0 j.toNat)) else none
 |_=>none
theorem cF (hg:Gl X "range") (hm:X.mg "range"=none) (ha:DA X E [a] fa) (hs:notStar a=true:=by rfl):DI X E tg (.Call (.Name "range" p) [a] [] pos) (fun δ=>fa δ >>= fun l=>opt (qR l)):=
 ⟨PI.mono (zT hg hm ha.h hs).h fun σ H R h=>by
  obtain⟨ρ,δ,M,ev,j,g1⟩:=h
  refine⟨ρ,δ,M,ev,j,g1.bind fun ρ1 H1 M1 x dx e1 j1 c1 g2=>?_⟩
  obtain⟨it,e,q⟩:=g2.opt
  unfold qR at e
  split at e
  ·split at e
   ·rename_i hk
    cases e
    cases c1 with | cons c1 c2=>
    cases c2;cases c1
    have hk:=of_decide_eq_true hk
    exact⟨_,rfl,hk.1,hk.2,q ρ1 H1 _ .refl j1 Jm⟩
   ·cases e
  ·cases e⟩
def Ba:D->Option Itn
 |.tup l=>some (.fix l)
 |_=>none
theorem rZ(hl:DE X E l fl):DI X E tg l (fun δ=>fl δ>>=fun d=>opt (Ba d)):=⟨PI.mono (pi_tup hl.h) fun σ H R h=>by
 obtain⟨ρ,δ,M,ev,j,g1⟩:=h
 refine⟨ρ,δ,M,ev,j,g1.bind fun ρ1 H1 M1 x dx e1 j1 c1 g2=>?_⟩
 obtain⟨it,e,q⟩:=g2.opt
 unfold Ba at e
 split at e
 ·cases e
  cases c1 with | tup n a c=>
  exact⟨_,rfl,⟨_,SqT.of a⟩,q ρ1 H1 _ .refl j1 (Jo n a c)⟩
 ·cases e⟩
end
def forL (tg:D->ao->DM ao) (fb:ao->DM Fl):List D->ao->DM Fl
 |[],δ=>pure (.nx δ)
 |d::l,δ=>tg d δ>>=fun δ1=>fb δ1>>=fun r=>match r with
   |.nx δ2=>forL tg fb l δ2
   |.ct δ2=>forL tg fb l δ2
   |.bk δ2=>pure (.nx δ2)
   |.rt d=>pure (.rt d)
def wM (tg:D->ao->DM ao) (fb:ao->DM Fl) (n:Nat):Nat->Nat->ao->DM Fl
 |0,_,_=>stuck
 | k + 1,i,δ=>rd (Itn.next (.dyn n) i) >>= fun o=>match o with
   |none=>pure (.nx δ)
   |some d=>tg d δ>>=fun δ1=>fb δ1>>=fun r=>match r with
     |.nx δ2=>wM tg fb n k (i+1) δ2
     |.ct δ2=>wM tg fb n k (i+1) δ2
     |.bk δ2=>pure (.nx δ2)
     |.rt d=>pure (.rt d)
def wL(N:Nat)(tg:D->ao->DM ao)(fb:ao->DM Fl):Itn->ao->DM Fl
 |.fix l=>forL tg fb l
 |.dyn n=>wM tg fb n N 0
theorem bL.rdb{mg:Str->Option Value}{E:XK}{D:Ends}{ρ:Rh}{H:Hp}{M:Mo}{γ:Type}{f:Mo->Option γ}{k:γ->DM Fl}(g:bL mg E D ρ H (L3.rd f>>=k) M):∃a,f M=some a∧bL mg E D ρ H (k a) M:=by
 obtain⟨r,e,p⟩:=g
 have e:DM.bind _ _ M=some r:=e
 unfold DM.bind L3.rd at e
 cases h:f M with
 |none=>rw[h] at e;cases e
 |some a=>rw[h] at e;exact⟨a,rfl,r,e,p⟩
theorem wN {X:Cx}{E:XK}{fg:D->ao->DM ao}{fb:ao->DM Fl}{D:Ends}{σ:L2.St}{H H':Hp}{ρ:Rh}{δ:ao}{M:Mo}{x:V}{d:L3.D}{N:L2.St->Hp->Prop}{again:ao->DM Fl}
  (ev:Ev X.mg ρ H σ δ) (e1:Ext ρ H ρ H') (j1:J X.mg ρ M H') (c1:Cv X.mg ρ H' x d) (ht:bL X.mg E D ρ H (fg d δ>>=fun δ1=>fb δ1>>=fun r=>match r with
    |.nx δ2=>again δ2
    |.ct δ2=>again δ2
    |.bk δ2=>pure (.nx δ2)
    |.rt d=>pure (.rt d)) M) (hN:∀ρ2 δ2 M2 σ2 H2,Ext ρ H ρ2 H2->Ev X.mg ρ2 H2 σ2 δ2->J X.mg ρ2 M2 H2->bL X.mg E D ρ2 H2 (again δ2) M2->N σ2 H2) :
  tG X.mg E fg x σ H' fun σ2 H2=>tS X.mg E fb { D with nx:=N,ct:=N,bk:=D.nx } σ2 H2:=by
 obtain⟨r,er,p⟩:=ht
 have ht':bL X.mg E D ρ H' _ M:=⟨r,er,p.mono e1⟩
 refine⟨ρ,δ,M,d,ev.mono e1,j1,c1,bL.bind ht' fun ρ2 H2 M2 σ2 δ2 e2 j2 ev2 g2=>⟨ρ2,δ2,M2,ev2,j2,g2.seq (fun δ' ρ3 H3 M3 σ3 e3 j3 ev3 g3=>?_) (fun δ' ρ3 H3 M3 σ3 e3 j3 ev3 g3=>?_) (fun δ' ρ3 H3 M3 σ3 e3 j3 ev3 g3=>?_) (fun d' ρ3 H3 M3 v e3 j3 c3 g3=>?_)⟩⟩
 ·exact hN ρ3 δ' M3 σ3 H3 ((e1.trans e2).trans e3) ev3 j3 g3
 ·exact bL.pure (a:=.nx δ') g3 ρ3 H3 σ3 .refl j3 ev3
 ·exact hN ρ3 δ' M3 σ3 H3 ((e1.trans e2).trans e3) ev3 j3 g3
 ·exact bL.pure (a:=.rt d') g3 ρ3 H3 v .refl j3 c3
theorem kY {body:List Stmt}{fi:ao->DM Itn}{fg:D->ao->DM ao}{fb:ao->DM Fl} (N:Nat) (hp:PassesOwn (model X.prog X.w) X.A X.env X.xe) (hc:X.calm=true) (hi:DI X E tg iter fi) (hg:DG X E tg fg) (hb:DSs X E body fb)
  (hs:∀x,foldedSetIterable iter X.env x=pure x:=by intro _;rfl):DS X E (.For tg iter body [] pos) (fun δ=>fi δ>>=fun it=>wL N fg fb it δ):=⟨PS.mono (ps_for hp hc hi.h hg.h hb.h hs) fun D σ H h=>by
 obtain⟨ρ,δ,M,ev,j,g1⟩:=h
 refine⟨ρ,δ,M,ev,j,g1.bind fun ρ1 H1 M1 Jt it e1 j1 iok g2=>?_⟩
 cases it with
 | fix l=>
   refine⟨fun i m σ H=>∃ρ' δ' M',Ext ρ1 H1 ρ' H∧Ev X.mg ρ' H σ δ'∧J X.mg ρ' M' H∧m=(l.drop i).length∧bL X.mg E D ρ' H (forL fg fb (l.drop i) δ') M',⟨_,ρ1,δ,M1,.refl,ev.mono e1,j1,rfl,g2⟩,?_⟩
   rintro i m σ2 H2 ⟨ρ2,δ2,M2,e2,ev2,j2,rfl,g3⟩
   cases hd:l[i]? with
   |none=>
     have hl:l.drop i=[]:=List.drop_eq_nil_of_le (List.getElem?_eq_none_iff.mp hd)
     rw[hl] at g3
     exact .inl ⟨iok.stop i ρ2 H2 M2 e2.kp j2 (congrArg some hd),bL.pure (a:=.nx δ2) g3 ρ2 H2 σ2 .refl j2 ev2⟩
   |some d=>
     obtain⟨hi',hd'⟩:=List.getElem?_eq_some_iff.mp hd
     have hl:l.drop i=d::l.drop (i+1):=by rw[←hd'];exact List.drop_eq_getElem_cons hi'
     obtain⟨go,yl⟩:=iok.item i ρ2 H2 M2 d e2.kp j2 (congrArg some hd)
     rw[hl] at g3
     refine .inr ⟨go,fun σ' H'=>∃ρ' δ' M',Ext ρ1 H1 ρ' H'∧Ev X.mg ρ' H' σ' δ'∧J X.mg ρ' M' H'∧bL X.mg E D ρ' H' (forL fg fb (l.drop (i+1)) δ') M',fun σ' H' ⟨ρ',δ',M',a1,a2,a3,a4⟩=>⟨_,by rw[List.length_drop,List.length_drop];lia,ρ',δ',M',a1,a2,a3,rfl,a4⟩,fun x H' y=>?_⟩
     obtain⟨x1,x2,x3⟩:=yl x H' y
     exact wN ev2 x1 x2 x3 g3 fun ρ3 δ3 M3 σ3 H3 f1 f2 f3 f4=>⟨ρ3,δ3,M3,e2.trans f1,f2,f3,f4⟩
 | dyn n=>
   refine⟨fun i m σ H=>∃ρ' δ' M',Ext ρ1 H1 ρ' H∧Ev X.mg ρ' H σ δ'∧J X.mg ρ' M' H∧bL X.mg E D ρ' H (wM fg fb n m i δ') M',⟨N,ρ1,δ,M1,.refl,ev.mono e1,j1,g2⟩,?_⟩
   rintro i m σ2 H2 ⟨ρ2,δ2,M2,e2,ev2,j2,g3⟩
   cases m with
   |zero=>obtain⟨r,e,_⟩:=g3;cases e
   | succ m=>
     obtain⟨o,eo,g4⟩:=bL.rdb g3
     cases o with
     |none=>exact .inl ⟨iok.stop i ρ2 H2 M2 e2.kp j2 eo,bL.pure (a:=.nx δ2) g4 ρ2 H2 σ2 .refl j2 ev2⟩
     |some d=>
       obtain⟨go,yl⟩:=iok.item i ρ2 H2 M2 d e2.kp j2 eo
       refine .inr ⟨go,fun σ' H'=>∃ρ' δ' M',Ext ρ1 H1 ρ' H'∧Ev X.mg ρ' H' σ' δ'∧J X.mg ρ' M' H'∧bL X.mg E D ρ' H' (wM fg fb n m (i+1) δ') M',fun σ' H' z=>⟨m,Nat.lt_succ_self _,z⟩,fun x H' y=>?_⟩
       obtain⟨x1,x2,x3⟩:=yl x H' y
       exact wN ev2 x1 x2 x3 g4 fun ρ3 δ3 M3 σ3 H3 f1 f2 f3 f4=>⟨ρ3,δ3,M3,e2.trans f1,f2,f3,f4⟩⟩
def oW(mg:Str->Option Value)(F:List D->DM D):Sp:=fun vs H Q E=>∃ρ M ds,Cvs mg ρ H vs ds∧J mg ρ M H∧Go mg E (Cv mg) Q ρ H (F ds) M
structure DefD(P:Program)(w:World)(K:PySem.W.Frag)(mg:Str->Option Value)(base:Heap)(k:Nat)(x:Str)(ps:List Str)(F:List D->DM D):Prop where
 h:DefC P w K mg base k x ps (oW mg F)
def aU(n:Nat)(ds:List D):ao:=ds.map some++List.replicate (n-ds.length) none
def aK(p n:Nat)(fb:ao->DM Fl)(ds:List D):DM D:=if ds.length=p then fb (aU n ds)>>=fun r=>match r with
 |.nx _=>pure .non
 |.rt d=>pure d
 |_=>stuck else stuck
theorem jl(c:Cvs mg ρ H vs ds):Ev mg ρ H (L2.start N vs) (aU N.length ds):=by
 unfold L2.start aU
 refine⟨by simp[c.len],fun i d q=>?_⟩
 by_cases hi:i<ds.length
 ·rw[List.getElem?_append_left (by rw[List.length_map];exact hi),List.getElem?_map] at q
  obtain⟨d',h1,h2⟩:=Option.map_eq_some_iff.mp q
  cases h2
  obtain⟨v,hv,cv⟩:=c.get h1
  exact⟨v,by rw[List.getElem?_append_left (by rw[List.length_map,c.len];exact hi),List.getElem?_map,hv];rfl,cv⟩
 ·rw[List.getElem?_append_right (by rw[List.length_map];lia),List.getElem?_replicate] at q
  split at q<;>cases q
section
variable{P:Program}{w:World}{K:PySem.W.Frag}{mg:Str->Option Value}{base:Heap}{k:Nat}{x:Str}{N ps:List Str}{st:Stmt}
theorem bL.aK(g:Go mg E (Cv mg) Q ρ H (L3.aK p n fb ds) M):ds.length=p∧bL mg E { nx:=fun _ H'=>Q .non H',rt:=Q } ρ H (fb (aU n ds)) M:=by
 obtain⟨r,e,p⟩:=g
 unfold L3.aK at e
 split at e
 rotate_left
 ·cases e
 rename_i hl
 refine⟨hl,?_⟩
 have e:DM.bind _ _ M=some r:=e
 unfold DM.bind at e
 split at e
 ·cases e
 ·rename_i c M' em
  cases e
  exact⟨_,em,p⟩
 ·rename_i a M' em
  refine⟨_,em,?_⟩
  cases a with
  |nx δ'=>cases e;exact fun ρ1 H1 b x j c=>p ρ1 H1 .non x j .non
  |rt d=>cases e;exact fun ρ1 H1 b x j c=>p ρ1 H1 b x j c
  |bk δ'=>cases e
  |ct δ'=>cases e
theorem DefAt.okD (D:DefAt K mg x st) (S:FnScope N ps (defScope st)) (hb:∀ (kV doc pm:Value) (an:Option Addr) (cdv ct:Value) (us:List Value),us.length=ps.length->bindArgs (PySem.W.fnOf x x (defArgs st) (defBody st) (defScope st) .none kV doc pm an cdv ct) ⟨us,[]⟩=pure (ps.zip us))
  (hbody:∀(f:Addr) (cdv:Value) (A:Around) (outer:List Env) (s:Shared) (H:Hp) (E:XK),Room k (A.deeper (envOfC x (defScope st) s.heap.objs.size f cdv))->
    DSs (bO P w K mg base N x (defScope st) f cdv A outer s H E) E (defBody st) fb):DefD P w K mg base (k+1) x ps (aK ps.length N.length fb):=⟨by
 refine D.okE S hb (fun vs H Q E h=>?_) fun f cdv A outer s H vs Q E hr h=>?_
 ·obtain⟨ρ,M,ds,c,j,g⟩:=h
  rw[c.len];exact (bL.aK g).1
 obtain⟨ρ,M,ds,c,j,g⟩:=h
 exact⟨_,(hbody f cdv A outer s H E hr).h,ρ,_,M,jl c,j,(bL.aK g).2⟩⟩
end
mutual
inductive Fz(M:Mo)(k:Nat):D->D->Prop
 |non:Fz M k .non .non
 |bl (b:Bool):Fz M k (.bl b) (.bl b)
 |int (i:Int):Fz M k (.int i) (.int i)
 |str (x:Str):Fz M k (.str x) (.str x)
 |tup {l l':List D}:Fzs M k l l'->Fz M k (.tup l) (.tup l')
 |lst {l l':List D}:Fzs M k l l'->Fz M k (.lst l) (.lst l')
 |dic {ks:List Key}{l l':List D}:Fzs M k l l'->Fz M k (.dic ks l) (.dic ks l')
 |obj {c:Str}{ns:List Str}{l l':List D}:Fzs M k l l'->Fz M k (.obj c ns l) (.obj c ns l')
 |scr (ns:List Int):Fz M k (.scr ns) (.scr ns)
 |old {n:Nat}:n<k->Fz M k (.ref n) (.ref n)
 |new {n:Nat}{l l':List D}:k≤n->M[n]?=some (.lst l)->Fzs M k l l'->Fz M k (.ref n) (.lst l')
 |cls (c:Str):Fz M k (.cls c) (.cls c)
 |ty (c:String):Fz M k (.ty c) (.ty c)
 |exn (a:Addr):Fz M k (.exn a) (.exn a)
inductive Fzs(M:Mo)(k:Nat):List D->List D->Prop
 |nil:Fzs M k [] []
 |cons {d d':D}{l l':List D}:Fz M k d d'->Fzs M k l l'->Fzs M k (d::l) (d'::l')
end
def N5(M:Mo)(k:Nat):DO->DO->Prop
 |.lst l,.lst l'=>Fzs M k l l'
 |.dic ks l,.dic ks' l'=>ks=ks'∧Fzs M k l l'
 |.ins c ns l,.ins c' ns' l'=>c=c'∧ns=ns'∧Fzs M k l l'
 |_,_=>False
def Mq(M':Mo)(k:Nat)(M1:Mo):Prop:=M1.length=k∧∀(n:Nat) o,M1[n]?=some o->∃o',M'[n]?=some o'∧N5 M' k o' o
section
variable{mg:Str->Option Value}{ρ ρ':Rh}{H:Hp}{M:Mo}{k:Nat}
structure Sub(ρ ρ':Rh)(k:Nat):Prop where
 st:∃τ,ρ'.st=ρ.st++τ
 vo:ρ'.vo=ρ.vo
 len:ρ.st.length=k
theorem Sub.out(s:Sub ρ ρ' k)(h:a∉ρ'):a∉ρ:=fun z=>by
 obtain⟨τ,e⟩:=s.st
 rcases z with z | z
 ·exact h (.inl (by rw[e];exact List.mem_append_left _ z))
 ·exact h (.inr (by rw[s.vo];exact z))
def NT(mg:Str->Option Value)(ρ:Rh)(H:Hp)(v:V)(d:D):Prop:=D.casesOn (motive_1:=fun _=>Prop) d (v=.non) (fun b=>v=.bl b) (fun i=>v=.int i) (fun x=>v=.str x) (fun ds=>∃a xs,v=.ref a∧a∉ρ∧H a=some (.tup xs)∧Cvs mg ρ H xs ds) (fun ds=>∃a xs,v=.ref a∧a∉ρ∧H a=some (.lst xs)∧Cvs mg ρ H xs ds)
 (fun ks ds=>∃a xs,v=.ref a∧a∉ρ∧H a=some (.dK (ks.zip xs))∧ks.length=xs.length∧Cvs mg ρ H xs ds) (fun c ns ds=>∃a C dx xs,v=.ref a∧a∉ρ∧mg c=some (.ref C)∧H a=some (.ins C dx (ns.zip xs))∧ns.length=xs.length∧Cvs mg ρ H xs ds)
 (fun ns=>∃a,v=.ref a∧a∉ρ∧Rd H a (.lst (ns.map V.int))) (fun n=>∃a,v=.ref a∧ρ.st[n]?=some a) (fun c=>∃C,v=.ref C∧mg c=some (.ref C)) (fun t=>v=.ty t) (fun a=>v=.ref a)
theorem Cv.inv{v:V}{d:D}(h:Cv mg ρ H v d):NT mg ρ H v d:=by
 cases h
 case non=>exact rfl
 case bl=>exact rfl
 case int=>exact rfl
 case str=>exact rfl
 case tup n h c=>exact⟨_,_,rfl,n,h,c⟩
 case lst n h c=>exact⟨_,_,rfl,n,h,c⟩
 case dic n h l c=>exact⟨_,_,rfl,n,h,l,c⟩
 case obj n m h l c=>exact⟨_,_,_,_,rfl,n,m,h,l,c⟩
 case scr n h=>exact⟨_,rfl,n,h⟩
 case ref h=>exact⟨_,rfl,h⟩
 case cls h=>exact⟨_,rfl,h⟩
 case ty=>exact rfl
 case exn=>exact rfl
theorem Cvs.inv{v:V}{d:D}{vs:List V}{l:List D}(h:Cvs mg ρ H vs (d::l)):∃v vs',vs=v::vs'∧Cv mg ρ H v d∧Cvs mg ρ H vs' l:=by cases h with | cons a b=>exact⟨_,_,rfl,a,b⟩
theorem Cvs.inv0{vs:List V}(h:Cvs mg ρ H vs []):vs=[]:=by cases h;rfl
theorem Cvs.freeze (s:Sub ρ ρ' k) (j:J mg ρ' M H) {d d':List D}{v:List V} (f:Fzs M k d d'):Cvs mg ρ' H v d->Cvs mg ρ H v d':=
 Fzs.rec (motive_1:=fun d d' _=>∀ v,Cv mg ρ' H v d->Cv mg ρ H v d') (motive_2:=fun d d' _=>∀ v,Cvs mg ρ' H v d->Cvs mg ρ H v d')
  (fun _ c=>Eq.symm (a:=_) (Cv.inv c) ▸ .non) (fun b _ c=>Eq.symm (a:=_) (Cv.inv c) ▸ .bl b) (fun b _ c=>Eq.symm (a:=_) (Cv.inv c) ▸ .int b) (fun b _ c=>Eq.symm (a:=_) (Cv.inv c) ▸ .str b)
  (fun _ f v c=>let ⟨_,_,e,n,h,c⟩:=Cv.inv c;e ▸ .tup (s.out n) h (f _ c))
  (fun _ f v c=>let ⟨_,_,e,n,h,c⟩:=Cv.inv c;e ▸ .lst (s.out n) h (f _ c))
  (fun _ f v c=>let ⟨_,_,e,n,h,l,c⟩:=Cv.inv c;e ▸ .dic (s.out n) h l (f _ c))
  (fun _ f v c=>let ⟨_,_,_,_,e,n,m,h,l,c⟩:=Cv.inv c;e ▸ .obj (s.out n) m h l (f _ c))
  (fun _ v c=>let ⟨_,e,n,h⟩:=Cv.inv c;e ▸ .scr (s.out n) h)
  (fun hn v c=>by
    obtain⟨a,rfl,h⟩:=Cv.inv c
    obtain⟨τ,e⟩:=s.st
    rw[e,List.getElem?_append_left (by rw[s.len];exact hn)] at h
    exact .ref h)
  (fun hn hm _ f v c=>by
    obtain⟨a,rfl,h⟩:=Cv.inv c
    obtain⟨xs,hx,c⟩:=j.obj _ _ _ h hm
    refine .lst (fun z=>?_) hx (f _ c)
    rcases z with z | z
    ·obtain⟨m,hm'⟩:=List.mem_iff_getElem?.mp z
     obtain⟨τ,e⟩:=s.st
     have hl:=(List.getElem?_eq_some_iff.mp hm').1
     have h2:ρ'.st[m]?=some a:=by rw[e,List.getElem?_append_left hl];exact hm'
     exact Nat.not_lt.mpr hn (j.inj h h2 ▸ s.len ▸ hl)
    ·exact (j.vol a (by rw[s.vo];exact z)).1 (List.mem_of_getElem? h))
  (fun _ v c=>let ⟨_,e,h⟩:=Cv.inv c;e ▸ .cls h) (fun b _ c=>Eq.symm (a:=_) (Cv.inv c) ▸ .ty b) (fun b _ c=>Eq.symm (a:=_) (Cv.inv c) ▸ .exn b)
  (fun v c=>Cvs.inv0 c ▸ .nil) (fun _ _ f g v c=>let ⟨_,_,e,a,b⟩:=Cvs.inv (v:=.non) c;e ▸ .cons (f _ a) (g _ b)) f v
theorem J.freeze {M1:Mo} (s:Sub ρ ρ' k) (j:J mg ρ' M H) (hk:ρ.st.length=M1.length) (f:Mq M k M1):J mg ρ M1 H:=by
 obtain⟨τ,e⟩:=s.st
 refine⟨hk,?_,fun n a o h1 h2=>?_,fun a ha=>?_⟩
 ·have:=j.nd
  rw[e] at this
  exact (List.nodup_append.mp this).1
 ·obtain ⟨o',h3,fo⟩:=f.2 n o h2
  have hl:=(List.getElem?_eq_some_iff.mp h1).1
  have c:=j.obj n a o' (by rw[e,List.getElem?_append_left hl];exact h1) h3
  cases o' with
  |lst l=>cases o with
    |lst l'=>obtain⟨xs,hx,c⟩:=c;exact⟨xs,hx,Cvs.freeze s j fo c⟩
    |dic _ _=>exact (show False from fo).elim
    |ins _ _ _=>exact (show False from fo).elim
  |dic ks l=>cases o with
    |lst l'=>exact (show False from fo).elim
    |dic ks' l'=>obtain⟨xs,hx,q,c⟩:=c;obtain⟨rfl,fo⟩:=fo;exact⟨xs,hx,q,Cvs.freeze s j fo c⟩
    |ins _ _ _=>exact (show False from fo).elim
  |ins c' ns l=>cases o with
    |lst l'=>exact (show False from fo).elim
    |dic _ _=>exact (show False from fo).elim
    |ins c'' ns' l'=>obtain⟨C,dx,xs,m,hx,q,c⟩:=c;obtain⟨rfl,rfl,fo⟩:=fo;exact⟨C,dx,xs,m,hx,q,Cvs.freeze s j fo c⟩
 ·obtain⟨x,xs,h⟩:=j.vol a (by rw[s.vo];exact ha)
  exact⟨fun z=>x (by rw[e];exact List.mem_append_left _ z),xs,h⟩
end
section
variable{X:Cx}{E:XK}{j k:Nat}{ps:List Str}{F:List D->DM D}{x:Str}{p pos:Pos}{e:Expr}{es:List Expr}{fs:ao->DM (List D)}
theorem aM(D:DefD X.prog X.w X.K X.mg X.base j x ps F)(hr:Room k X.A)(hx:Passes (bM X.prog X.w) X E)(ha:DA X E (e::es) fs)(hjk:j≤k:=by decide)(hg:Gl X x:=by rfl)(hdb:(x==("__debug__":Str))=false:=by decide)
  (he:notStar e=true:=by rfl) (hpl:(backTo pos (starEach es X.env)).any (·.1)=false:=by rfl) :
  DE X E (.Call (.Name x p) (e::es) [] pos) (fun δ=>fs δ>>=F):=⟨PE.mono (vg D.h hr hx ha.h hjk hg hdb he hpl) fun σ H Q h=>by
 obtain⟨ρ,δ,M,ev,j,g1⟩:=h
 refine⟨ρ,δ,M,ev,j,g1.bind fun ρ1 H1 M1 xs dxs e1 j1 c1 g2=>?_⟩
 rw[List.append_nil]
 exact⟨ρ1,M1,dxs,c1,j1,g2⟩⟩
def rC(mg:Str->Option Value)(E:XK)(g:List D->DM D):List V->Hp->VK->Prop:=fun vs H Q=>∃ρ M ds,J mg ρ M H∧Cvs mg ρ H vs ds∧Go mg E (Cv mg) Q ρ H (g ds) M
def CallD(X:Cx)(E:XK)(f:Value)(g:List D->DM D):Prop:=CallR X f (rC X.mg E g)
theorem aQ{id:String}{g:List D->DM D}(hc:CallD X E (.builtin id) g)(hm:X.mg x=none)(ha:DA X E (e::es) fs)(hg:Gl X x:=by rfl)(hv:bootBuiltins x=some (.builtin id):=by decide +kernel)(hn:x≠"__name__":=by decide)(hdb:(x==("__debug__":Str))=false:=by decide)
  (he:notStar e=true:=by rfl) (hpl:(backTo pos (starEach es X.env)).any (·.1)=false:=by rfl) :
  DE X E (.Call (.Name x p) (e::es) [] pos) (fun δ=>fs δ>>=g):=⟨PE.mono (Lk hc hm ha.h hg hv hn hdb he hpl) fun σ H Q h=>by
 obtain⟨ρ,δ,M,ev,j,g1⟩:=h
 exact⟨ρ,δ,M,ev,j,g1.bind fun ρ1 H1 M1 xs dxs e1 j1 c1 g2=>⟨ρ1,M1,dxs,j1,c1,g2⟩⟩⟩
theorem fM{T:String}{g:List D->DM D}(hc:CallD X E (.type T) g)(hm:X.mg x=none)(ha:DA X E (e::es) fs)(hg:Gl X x:=by rfl)(hv:bootBuiltins x=some (.type T):=by decide +kernel)(hn:x≠"__name__":=by decide)(hdb:(x==("__debug__":Str))=false:=by decide)
  (he:notStar e=true:=by rfl) (hpl:(backTo pos (starEach es X.env)).any (·.1)=false:=by rfl) :
  DE X E (.Call (.Name x p) (e::es) [] pos) (fun δ=>fs δ>>=g):=⟨PE.mono (Lp hc hm ha.h hg hv hn hdb he hpl) fun σ H Q h=>by
 obtain⟨ρ,δ,M,ev,j,g1⟩:=h
 exact⟨ρ,δ,M,ev,j,g1.bind fun ρ1 H1 M1 xs dxs e1 j1 c1 g2=>⟨ρ1,M1,dxs,j1,c1,g2⟩⟩⟩
theorem CallD.of{f:Value}{r:List V->Hp->VK->Prop}{g:List D->Mo->Option D}(hr:CallR X f r)
  (h:∀vs H Q ρ M ds d,J X.mg ρ M H->Cvs X.mg ρ H vs ds->g ds M=some d->(∀ρ' H' v,Ext ρ H ρ' H'->J X.mg ρ' M H'->Cv X.mg ρ' H' v d->Q v H')->r vs H Q):CallD X E f (fun l=>rd (g l)):=by
 intro pins s σ H vs us Q I rs q
 obtain⟨ρ,M,ds,j,c,go⟩:=q
 obtain⟨d,e,p⟩:=go.rd
 exact hr pins s σ H vs us Q I rs (h vs H Q ρ M ds d j c e p)
end
section
variable{X:Cx}{E:XK}{mg:Str->Option Value}{ρ:Rh}{H:Hp}{M:Mo}
theorem Cvs.one(c:Cvs mg ρ H vs [d]):∃v,vs=[v]∧Cv mg ρ H v d:=by
 cases c with
 |cons c c2=>cases c2;exact⟨_,rfl,c⟩
theorem Cvs.two (c:Cvs mg ρ H vs [d,e]):∃ v w,vs=[v,w]∧Cv mg ρ H v d∧Cv mg ρ H w e:=by
 cases c with
 |cons c c2=>
   obtain⟨w,rfl,k⟩:=c2.one
   exact⟨_,_,rfl,c,k⟩
def cW:List D->Mo->Option D
 |[.tup l],_=>some (.int l.length)
 |[.scr l],_=>some (.int l.length)
 |[.str x],_=>if x.length≤sizeLine then some (.int x.length) else none
 |[d],M=>(bh d M).map fun l=>.int l.length
 |_,_=>none
theorem call_lenD:CallD X E (.builtin "len") (fun l=>rd (cW l)):=CallD.of (call_len_seq.or call_len_str) fun vs H Q ρ M ds d j c e q=>by
 unfold cW at e
 split at e
 ·cases e
  obtain⟨v,rfl,k⟩:=c.one
  replace c:=k
  cases c with | tup n a c=>
  exact .inl ⟨_,_,rfl,.inr (SqT.of a),by rw[c.len];exact q ρ H _ .refl j (.int _)⟩
 ·cases e
  obtain⟨v,rfl,k⟩:=c.one
  replace c:=k
  cases c with | scr n a=>
  exact .inl ⟨_,_,rfl,.inl (.inl a),by rw[List.length_map];exact q ρ H _ .refl j (.int _)⟩
 ·split at e
  ·cases e
   obtain⟨v,rfl,k⟩:=c.one
   replace c:=k
   cases c
   exact .inr ⟨_,rfl,‹_›,q ρ H _ .refl j (.int _)⟩
  ·cases e
 ·obtain⟨l,h1,rfl⟩:=Option.map_eq_some_iff.mp e
  obtain⟨v,rfl,k⟩:=c.one
  replace c:=k
  obtain⟨a,xs,rfl,ha,c⟩:=cP j c h1
  exact .inl ⟨_,_,rfl,.inl (SqL.of ha),by rw[c.len];exact q ρ H _ .refl j (.int _)⟩
 ·cases e
def MJ:List D->Mo->Option D
 |[.int i],_=>some (.int (if i<0 then -i else i))
 |_,_=>none
def vD:List D->Mo->Option D
 |[.int i,.int j],_=>some (.int (if j > i then j else i))
 |_,_=>none
def Ld:List D->Mo->Option D
 |[.int i,.int j],_=>some (.int (if j<i then j else i))
 |_,_=>none
theorem rO(hc:X.calm=true):CallD X E (.builtin "max") (fun l=>rd (vD l)):=CallD.of (call_max2 hc) fun vs H Q ρ M ds d j c e q=>by
 unfold vD at e
 split at e
 ·cases e
  obtain⟨v,w,rfl,k,c2⟩:=c.two
  replace c:=k
  cases c;cases c2
  exact⟨_,_,rfl,q ρ H _ .refl j (.int _)⟩
 ·cases e
def gZ:D->Mo->Option (List D)
 |.tup l,_=>some l
 |d,M=>bh d M
theorem CV(j:J mg ρ M H)(c:Cv mg ρ H x d)(e:gZ d M=some l):∃a xs,x=.ref a∧(H a=some (.lst xs)∨H a=some (.tup xs))∧Cvs mg ρ H xs l:=by
 unfold gZ at e
 split at e
 ·cases e
  cases c with | tup n a c=>exact⟨_,_,rfl,.inr a,c⟩
 ·obtain⟨a,xs,rfl,ha,c⟩:=cP j c e
  exact⟨a,xs,rfl,.inl ha,c⟩
def intsOf:List D->Option (List Int)
 |[]=>some []
 |.int i::l=>(intsOf l).map (i::·)
 |_=>none
theorem ints_of:∀ {xs:List V}{l:List D}{ns:List Int},Cvs mg ρ H xs l->intsOf l=some ns->xs=ns.map V.int
 |_,_,_,.nil,e=>by cases e;rfl
 | _,_,_,.cons (d:=d) c cs,e=>by
   cases d with
   |int i=>
     obtain⟨ms,h1,rfl⟩:=Option.map_eq_some_iff.mp e
     cases c
     rw[ints_of cs h1];rfl
   |_=>cases e
theorem Bk (hh:X.A.handled=none):CallR X (.builtin "sum") (fun vs H Q=>∃ (l:Addr) (ns:List Int),vs=[.ref l]∧(H l=some (.lst (ns.map V.int))∨H l=some (.tup (ns.map V.int)))∧Q (.int ns.sum) H):=by
 intro pins s σ H vs us Q I r h
 obtain⟨l,ns,rfl,hH,q⟩:=h
 obtain⟨u,rfl,ru⟩:=vals1 r
 cases ru
 have fin:∀(its:List Value),IntsAre its ns->∃xs,its.toArray=intItems xs∧preSum (numAt xs) xs.size=ns.sum:=fun its hi=>by
  obtain⟨xs,hx⟩:=hi.allInts.items
  have hn:numsOf its.toArray.toList=ns:=by rw[show its.toArray.toList=its from rfl,hi.numsOf]
  rw[hx] at hn
  rw[PySem.nums_intItems] at hn
  exact⟨xs,hx,by rw[PySem.preSum_eq,List.take_of_length_le (by simp),hn]⟩
 rcases hH with hH | hH
 ·obtain ⟨its,rv,p,hz⟩:=I.list (SqL.of (K:=X.K) hH)
  obtain⟨xs,hx,hs⟩:=fin its (intsAre_of rv)
  have hl:=p.isList
  rw[hx] at hl
  obtain⟨o,ho,hc,n,hd⟩:=id hl
  have hne:l≠s.heap.objs.size:=Nat.ne_of_lt (Heap.lt_size ho)
  have hsz:(intItems xs).size=xs.size:=by simp[intItems]
  have W:=(Walks.list (prog:=X.prog) (w:=X.w) (A:=X.A.in1) hh s.heap.objs.size l hne (intItems xs)).toS
  rw[hsz] at W
  refine call_sum_walkAnyS (wpAny_pyIter_list hl ?_)
  refine⟨s.heap.objs.size,_,_,_,_,_,_,numAt xs,rfl,W,⟨⟨_,Heap.get?_push_size _ rfl,rfl,rfl⟩,hl.at fun o e=>Heap.get?_push_of_some _ e⟩,fun b hb=>?_,fun i v hP=>intItems_at hP,fun s' t' hm=>?_⟩
  ·rcases List.mem_cons.mp hb with rfl | hb
   ·exact Heap.lt_size (Heap.get?_push_size _ rfl)
   ·obtain rfl:=List.mem_singleton.mp hb
    exact Heap.lt_size (Heap.get?_push_of_some _ ho)
  ·obtain⟨h',g',d',tk',os'⟩:=s'
   have e1:g'=s.gens:=hm.gens
   have e2:d'=s.drawn:=hm.drawn
   have e3:os'=s.os:=hm.os
   subst e1 e2 e3
   refine⟨.int ns.sum,H,I.kept (h':=h') (t':=tk') fun b o e=>hm.heap b o (fun hb=>absurd (Heap.lt_size e) ((List.mem_singleton.mp hb) ▸ Nat.lt_irrefl _)) (Heap.get?_push_of_some _ e),⟨t',?_⟩,q⟩
   rw[←hs]
 ·obtain⟨its,rv,p,hz⟩:=I.tuple (SqT.of (K:=X.K) hH)
  obtain⟨xs,hx,hs⟩:=fin its (intsAre_of rv)
  rw[hx] at p
  exact PySem.W.ktm_sumG hh (show s.heap.IsTuple l _ from p) fun h' tk t' hk=>⟨.int ns.sum,H,I.kept hk,⟨t',by rw[←hs]⟩,q⟩
def xT:List D->Mo->Option D
 |[d],M=>(gZ d M).bind fun l=>(intsOf l).map fun ns=>.int ns.sum
 |_,_=>none
theorem ie(hh:X.A.handled=none):CallD X E (.builtin "sum") (fun l=>rd (xT l)):=CallD.of (Bk hh) fun vs H Q ρ M ds d j c e q=>by
 unfold xT at e
 split at e
 ·obtain⟨l,h1,e1⟩:=Option.bind_eq_some_iff.mp e
  obtain⟨ns,h2,rfl⟩:=Option.map_eq_some_iff.mp e1
  obtain⟨v,rfl,k⟩:=c.one
  replace c:=k
  obtain⟨a,xs,rfl,ha,c⟩:=CV j c h1
  have:=ints_of c h2
  subst this
  exact⟨_,ns,rfl,ha,q ρ H _ .refl j (.int _)⟩
 ·cases e
def Ff:D->Option Bool
 |.bl b=>some b
 |.int i=>some (i != 0)
 |_=>none
def gC:List D->Option (List Bool)
 |[]=>some []
 |d::l=>match Ff d,gC l with
   |some b,some bs=>some (b::bs)
   |_,_=>none
theorem uN:∀ {xs:List V}{l:List D}{bs:List Bool},Cvs mg ρ H xs l->gC l=some bs->(∀ x∈xs,scS x=true)∧xs.map gB=bs
 |_,_,_,.nil,e=>by cases e;exact⟨(fun x hx=>nomatch hx),rfl⟩
 | _,_,_,.cons (d:=d) (ds:=ds) (vs:=vs) c cs,e=>by
   unfold gC at e
   split at e
   ·rename_i b bs h1 h2
    cases e
    obtain⟨a1,a2⟩:=uN cs h2
    cases c with
    |bl b'=>cases h1;exact⟨fun x hx=>by rcases List.mem_cons.mp hx with rfl | hx;rfl;exact a1 x hx,by rw[List.map_cons,a2];rfl⟩
    |int b'=>cases h1;exact⟨fun x hx=>by rcases List.mem_cons.mp hx with rfl | hx;rfl;exact a1 x hx,by rw[List.map_cons,a2];rfl⟩
    |_=>cases h1
   ·cases e
def ud:List D->Mo->Option D
 |[d],M=>(bh d M).bind fun l=>(gC l).map fun bs=>.bl (bs.all id)
 |_,_=>none
def zp:List D->Mo->Option D
 |[.tup l],_=>(gC l).map fun bs=>.bl (bs.any id)
 |_,_=>none
theorem nQ(hh:X.A.handled=none):CallD X E (.builtin "all") (fun l=>rd (ud l)):=CallD.of (Dv hh) fun vs H Q ρ M ds d j c e q=>by
 unfold ud at e
 split at e
 ·obtain⟨l,h1,e1⟩:=Option.bind_eq_some_iff.mp e
  obtain⟨ns,h2,rfl⟩:=Option.map_eq_some_iff.mp e1
  obtain⟨v,rfl,k⟩:=c.one
  replace c:=k
  obtain⟨a,xs,rfl,ha,c⟩:=cP j c h1
  obtain⟨t1,t2⟩:=uN c h2
  subst t2
  exact⟨_,xs,rfl,ha,t1,by have z:=q ρ H _ .refl j (.bl _);rw[List.all_map] at z;exact z⟩
 ·cases e
theorem Bf(hh:X.A.handled=none):CallD X E (.builtin "any") (fun l=>rd (zp l)):=CallD.of (Dw hh) fun vs H Q ρ M ds d j c e q=>by
 unfold zp at e
 split at e
 ·obtain⟨ns,h2,rfl⟩:=Option.map_eq_some_iff.mp e
  obtain⟨v,rfl,k⟩:=c.one
  replace c:=k
  cases c with | tup n ha c=>
  obtain⟨t1,t2⟩:=uN c h2
  subst t2
  exact⟨_,_,rfl,ha,t1,by have z:=q ρ H _ .refl j (.bl _);rw[List.any_map] at z;exact z⟩
 ·cases e
def lK:List D->Mo->Option D
 |[d],M=>(gZ d M).map .tup
 |_,_=>none
theorem cR:CallD X E (.type "tuple") (fun l=>rd (lK l)):=CallD.of call_tuple_of fun vs H Q ρ M ds d j c e q=>by
 unfold lK at e
 split at e
 ·obtain⟨l,h1,rfl⟩:=Option.map_eq_some_iff.mp e
  obtain⟨v,rfl,k⟩:=c.one
  replace c:=k
  unfold gZ at h1
  split at h1
  ·cases h1
   cases c with | tup n a c=>
   exact⟨_,_,rfl,.inr ⟨SqT.of a,q ρ H _ .refl j (.tup n a c)⟩⟩
  ·obtain⟨a,xs,rfl,ha,c⟩:=cP j c h1
   exact⟨_,_,rfl,.inl ⟨SqL.of ha,fun p hp=>q ρ _ _ (.lay hp) (j.lay _ hp) (.tup (j.fresh hp) upd_same (c.mono (.lay hp)))⟩⟩
 ·cases e
def FN:List D->Mo->Option (List D)
 |[d],M=>gZ d M
 |_,_=>none
theorem rN:CallD X E (.type "list") (fun l=>rd (FN l)>>=dD):=by
 intro pins s σ H vs us Q I rs q
 obtain⟨ρ,M,ds,j,c,go⟩:=q
 obtain⟨l,e1,g⟩:=Go.rdb go
 unfold FN at e1
 split at e1
 ·obtain⟨v,rfl,k⟩:=c.one
  replace c:=k
  obtain⟨a,xs,rfl,ha,c⟩:=CV j c e1
  exact call_list_of (X:=X) pins s σ H _ us Q I rs ⟨_,_,rfl,ha.imp SqL.of SqT.of,fun p hp=>(g.dD j c hp).2⟩
 ·cases e1
def zU(d:D):Option PyData:=match toPy d with
 |some p=>some p
 |none=>jL d
def pN:List D->Mo->Option D
 |[d],_=>(zU d).bind fun p=>if p.showable&&decide (p.depth≤60)&&decide (dG p≤sizeLine) then some (.str p.shown) else none
 |_,_=>none
theorem rP (hg:X.A.guards=some []) (hu:X.A.units + 64<cLine):CallD X E (.builtin "repr") (fun l=>rd (pN l)):=CallD.of (zy hg hu) fun vs H Q ρ M ds d j c e q=>by
 unfold pN at e
 split at e
 ·obtain ⟨p,h1,e1⟩:=Option.bind_eq_some_iff.mp e
  split at e1
  ·rename_i hk
   cases e1
   simp only[Bool.and_eq_true,decide_eq_true_eq] at hk
   obtain⟨v,rfl,k⟩:=c.one
   replace c:=k
   have key:∃f,RepF H f v p:=by
    unfold zU at h1
    split at h1
    ·rename_i h2
     cases h1;exact⟨true,c.repF h2⟩
    ·exact⟨false,c.repD h1⟩
   obtain⟨f,rp⟩:=key
   exact⟨f,_,p,rfl,rp,hk.1.1,hk.1.2,hk.2,q ρ H _ .refl j (.str _)⟩
  ·cases e1
 ·cases e
def tyOf:D->Mo->Option String
 |.non,_=>some "NoneType"
 |.bl _,_=>some "bool"
 |.int _,_=>some "int"
 |.str _,_=>some "str"
 |.tup _,_=>some "tuple"
 |.lst _,_=>some "list"
 |.scr _,_=>some "list"
 |.dic _ _,_=>some "dict"
 |.ref n,M=>match M[n]? with
   |some (.lst _)=>some "list"
   |some (.dic _ _)=>some "dict"
   |_=>none
 |_,_=>none
theorem Ag {K:PySem.W.Frag} (j:J mg ρ M H) {x:V}{d:D}{t:String} (c:Cv mg ρ H x d) (e:tyOf d M=some t):TyOf K H x (.type t):=by
 cases c with
 |non=>cases e;exact .non
 |bl b=>cases e;exact .bl b
 |int b=>cases e;exact .int b
 |str b=>cases e;exact .str b
 |tup n h c=>cases e;exact .tup h
 |lst n h c=>cases e;exact .lst h
 |dic n h l c=>cases e;exact .dK h
 |scr n h=>
   cases e
   rcases h with h | ⟨o,h⟩
   ·exact .lst h
   ·exact .frz h
 | ref q=>
   unfold tyOf at e
   dsimp only at e
   split at e
   ·rename_i l hl
    cases e
    obtain⟨xs,h,_⟩:=j.obj _ _ _ q hl
    exact .lst h
   ·rename_i ks l hl
    cases e
    obtain⟨xs,h,_⟩:=j.obj _ _ _ q hl
    exact .dK h
   ·cases e
 |_=>cases e
def Af(t c:String):Bool:=t==c || (t=="bool"&&c=="int")
def tys:List String:=["NoneType", "bool", "int", "str", "tuple", "list", "dict"]
def gh:List D->Mo->Option D
 |[d,.ty c],M=>(tyOf d M).bind fun t=>if tys.contains c then some (.bl (Af t c)) else none
 |_,_=>none
theorem rA(e:tyOf d M=some t):t∈tys:=by
 unfold tyOf at e
 split at e<;>first | (cases e;decide) | (split at e<;>first | (cases e;decide) | cases e) | cases e
theorem Js{K:PySem.W.Frag}:∀t∈tys,∀c∈tys,PySem.W.kitOne K (.type t) (.type c)=some (Af t c):=by
 intro t ht c hc
 simp only[tys,List.mem_cons,List.mem_nil_iff,or_false] at ht hc
 rcases ht with rfl | rfl | rfl | rfl | rfl | rfl | rfl<;>rcases hc with rfl | rfl | rfl | rfl | rfl | rfl | rfl<;>rfl
theorem cX:CallD X E (.builtin "isinstance") (fun l=>rd (gh l)):=CallD.of Dy fun vs H Q ρ M ds d j c e q=>by
 unfold gh at e
 split at e
 ·obtain⟨t,h1,e1⟩:=Option.bind_eq_some_iff.mp e
  split at e1
  ·rename_i hk
   cases e1
   obtain⟨v,w,rfl,k,c2⟩:=c.two
   replace c:=k
   cases c2
   exact⟨_,_,_,_,rfl,Ag j c h1,Js _ (rA h1) _ (List.contains_iff_mem.mp hk),q ρ H _ .refl j (.bl _)⟩
  ·cases e1
 ·cases e
def Fw(X:Cx)(E:XK)(id:String)(g:D->List D->DM D):Prop:=MtR X id (fun x vs H Q=>∃ρ M d ds,J X.mg ρ M H∧Cv X.mg ρ H x d∧Cvs X.mg ρ H vs ds∧Go X.mg E (Cv X.mg) Q ρ H (g d ds) M)
def Dt:D->List D->DM D
 |.ref n,[v]=>fun M=>match M[n]? with
   |some (.lst l)=>if l.length<sizeLine then some (.ok .non,M.set n (.lst (l++[v]))) else none
   |_=>none
 |_,_=>stuck
theorem yM:Fw X E "list.append" Dt:=by
 intro pins s σ H x xs v us Q I rx rs q
 obtain⟨ρ,M,d,ds,j,cx,cs,r,e,p⟩:=q
 cases cx with
 | ref hn=>
   cases cs with
   |nil=>cases e
   | cons c cs=>cases cs with
     |cons _ _=>cases e
     | nil=>
       rename_i n a w dw
       have e:(match M[n]? with
        |some (.lst l)=>if l.length<sizeLine then some (R.ok .non,M.set n (.lst (l++[dw]))) else none
        |_=>none)=some r:=e
       split at e
       ·rename_i l hl
        split at e
        ·cases e
         obtain⟨xs,hx,cl⟩:=j.obj _ _ _ hn hl
         have x:Ext ρ H ρ (upd H a (.lst (xs++[w]))):=.upd (List.mem_of_getElem? hn)
         exact mt_append (X:=X) pins s σ H _ _ v us Q I rx rs ⟨_,_,_,rfl,rfl,hx,by rw[cl.len];assumption,p ρ _ .non x (j.upd hn ⟨_,upd_same,(cl.append (.cons c .nil)).mono x⟩) .non⟩
        ·cases e
       ·cases e
 |_=>cases e
theorem vA {name id:String}{g:D->List D->DM D}{o e:Expr}{es:List Expr}{fo:ao->DM D}{fs:ao->DM (List D)}{apos cpos:Pos} (pa:PlainAttrs "list") (slot:Slot "list" name id) (hty:typeOf (.builtin id)=pure (.type "method_descriptor")) (hm:Fw X E id g) (ho:DE X E o fo) (ha:DA X E (e::es) fs)
  (hbase:attributeBase o name X.env (eval o X.env)=eval o X.env:=by rfl)
  (hfew:((backTo cpos (starEach (e::es) X.env)).all (fun x=>!x.1)&&(backToKw cpos (keywordEach [] X.env)).all (fun x=>x.1.isSome)
   &&decide ((e::es).length+([]:List Keyword).length+(if ([]:List Keyword).isEmpty then 0 else 1)<30))=true:=by rfl)
  (hline:(apos.endLine==cpos.line)=true:=by rfl) (hs:notStar e=true:=by rfl) (hplain:(backTo cpos (starEach es X.env)).any (·.1)=false:=by rfl) :
  DE X E (.Call (.Attribute o name apos) (e::es) [] cpos) (fun δ=>fo δ>>=fun x=>rd (fun M=>bh x M)>>=fun _=>fs δ>>=fun xs=>g x xs):=⟨PE.mono (J0 pa slot hty hm ho.h ha.h hbase hfew hline hs hplain) fun σ H Q h=>by
 obtain⟨ρ,δ,M,ev,j,g1⟩:=h
 refine⟨ρ,δ,M,ev,j,g1.bind fun ρ1 H1 M1 x dx e1 j1 c1 g2=>?_⟩
 obtain⟨l,hl,g3⟩:=Go.rdb g2
 obtain⟨a,xs,rfl,hx,cl⟩:=cP j1 c1 hl
 exact⟨.inl ⟨rfl,_,SqL.of hx⟩,ρ1,δ,M1,ev.mono e1,j1,g3.bind fun ρ2 H2 M2 ys dys e2 j2 c2 g4=>⟨ρ2,M2,dx,dys,j2,c1.mono e2,c2,g4⟩⟩⟩
end
structure ExtB(acc:Addr)(ρ:Rh)(H:Hp)(ρ':Rh)(H':Hp):Prop where
 pre:∃τ,ρ'.st=ρ.st++τ
 vo:ρ'.vo=ρ.vo
 new:∀a,a∈ρ'.st->a∉ρ.st->H a=none
 keep:∀a o,H a=some o->a∉ρ.st->a≠acc->H' a=some o
 na:acc∉ρ'.st
section
variable{acc:Addr}{ρ ρ1 ρ2:Rh}{H H1 H2:Hp}
theorem ExtB.trans (e:ExtB acc ρ H ρ1 H1) (f:ExtB acc ρ1 H1 ρ2 H2):ExtB acc ρ H ρ2 H2:=by
 have out:∀a o,H a=some o->a∉ρ.st->a∉ρ1.st:=fun a o h n z=>by have:=e.new a z n;rw[h] at this;cases this
 refine⟨?_,f.vo.trans e.vo,fun a h n=>?_,fun a o h n na=>f.keep a o (e.keep a o h n na) (out a o h n) na,f.na⟩
 ·obtain⟨τ,h1⟩:=e.pre
  obtain⟨υ,h2⟩:=f.pre
  exact⟨τ++υ,by rw[h2,h1,List.append_assoc]⟩
 ·by_cases z:a∈ρ1.st
  ·exact e.new a z n
  ·cases q:H a with
   |none=>rfl
   |some o=>
     have:=f.new a h z
     rw[e.keep a o q n (fun y=>f.na (y ▸ h))] at this;cases this
theorem Ext.b(e:Ext ρ H ρ1 H1)(na:acc∉ρ1.st):ExtB acc ρ H ρ1 H1:=⟨e.pre,e.vo,e.new,fun a o h n _=>e.keep a o h n,na⟩
theorem ExtB.kp(e:ExtB acc ρ H ρ1 H1)(h:acc∈ρ.vo):Kp ρ H ρ1 H1:=⟨e.pre,fun a o q n _=>by
 have ne:a≠acc:=fun z=>n (z ▸ .inr h)
 have ns:a∉ρ.st:=fun z=>n (.inl z)
 refine⟨fun z=>?_,e.keep a o q ns ne⟩
 rcases z with z | z
 ·have:=e.new a z ns
  rw[q] at this;cases this
 ·rw[e.vo] at z;exact n (.inr z)⟩
theorem ExtB.refl(na:acc∉ρ.st):ExtB acc ρ H ρ H:=(Ext.refl).b na
theorem ExtB.grow(na:acc∉ρ.st):ExtB acc ρ H ρ (upd H acc (.lst ys)):=⟨⟨[],by simp⟩,rfl,fun a h n=>absurd h n,fun a o h _ ne=>by rw[upd_ne ne];exact h,na⟩
end
abbrev ZK:=Addr->Rh->Hp->HO->List D->Prop
structure CstG(Z:ZK)(X:Cx)(pins:List (Addr×Obj))(acc:Addr)(ρ0:Rh)(H0:Hp)(δ:ao)(l:List D)(M:Mo)(fp:List Addr)(s:Shared):Prop where
 ex:∃σ H ρ o,Inv X pins σ H s∧ExtB acc ρ0 H0 ρ H∧J X.mg ρ M H∧Ev X.mg ρ H σ δ∧H acc=some o∧Z acc ρ H o l∧∀b∈fp,H b=none
def ZK.Ok(Z:ZK):Prop:=∀a ρ H ρ' H' o l,Z a ρ H o l->Ext ρ H ρ' H'->Z a ρ' H' o l
def ZL(mg:Str->Option Value):ZK:=fun _ ρ H o l=>∃ys,o=.lst ys∧Cvs mg ρ H ys l
theorem ZL.ok:(ZL mg).Ok:=fun _ _ _ _ _ _ _ ⟨ys,e,c⟩ x=>⟨ys,e,c.mono x⟩
def bN(fg:D->ao->DM ao)(ft:ao->DM Bool)(fb:ao->List D->DM (ao×List D)):List D->ao->List D->DM (ao×List D)
 |[],δ,l=>pure (δ,l)
 |d::ds,δ,l=>fg d δ>>=fun δ1=>ft δ1>>=fun b=>(if b then fb δ1 l else pure (δ1,l))>>=fun p=>bN fg ft fb ds p.1 p.2
def zN (fg:D->ao->DM ao) (ft:ao->DM Bool) (fb:ao->List D->DM (ao×List D)) (n:Nat):Nat->Nat->ao->List D->DM (ao×List D)
 |0,_,_,_=>stuck
 |k+1,i,δ,l=>rd (Itn.next (.dyn n) i)>>=fun o=>match o with
   |none=>pure (δ,l)
   |some d=>fg d δ>>=fun δ1=>ft δ1>>=fun b=>(if b then fb δ1 l else pure (δ1,l))>>=fun p=>zN fg ft fb n k (i+1) p.1 p.2
def dC(fg:D->ao->DM ao)(ft:ao->DM Bool)(fb:ao->List D->DM (ao×List D)):Itn->ao->List D->DM (ao×List D)
 |.fix ds,δ,l=>bN fg ft fb ds δ l
 |.dyn n,δ,l=>rd (fun M=>bh (.ref n) M)>>=fun m=>zN fg ft fb n (m.length+1) 0 δ l
def cT(fe:ao->DM D)(δ:ao)(l:List D):DM (ao×List D):=fe δ>>=fun d=>if l.length<sizeLine then pure (δ,l++[d]) else stuck
def N7(X:Cx)(ifs:List Expr)(t:TT):Prop:=∀(pins:List (Addr×Obj)) (s:Shared) (σ:L2.St) (H:Hp) (Q:Bool->Hp->Prop),Inv X pins σ H s->t σ H Q->wpAny (model X.prog X.w) X.A (uM ifs X.env) (TP X pins σ Q) X.xe s
structure DTs(X:Cx)(E:XK)(ifs:List Expr)(f:ao->DM Bool):Prop where
 h:N7 X ifs (tD X.mg E Bv f)
theorem uh:DTs X E [] (fun _=>pure true):=⟨fun pins s σ H Q I h=>by
 obtain⟨ρ,δ,M,ev,j,g⟩:=h
 exact wpAny_pure ⟨H,I,g.pure ρ H true .refl j rfl⟩⟩
theorem um(hc:DT X E c f):DTs X E [c] f:=⟨fun pins s σ H Q I h=>wpAny_tests_one (hc.h pins s σ H Q I h)⟩
theorem DM.bind_ok{α β:Type}{m:DM α}{k:α->DM β}{M M':Mo}{b:β}(h:(m>>=k) M=some (.ok b,M')):∃a M1,m M=some (.ok a,M1)∧k a M1=some (.ok b,M'):=by
 have h:DM.bind m k M=some (.ok b,M'):=h
 unfold DM.bind at h
 split at h
 ·cases h
 ·cases h
 ·rename_i a M1 e
  exact⟨a,M1,e,h⟩
def vq(Z:ZK)(X:Cx)(acc:Addr)(W:(Shared->Prop)->Shared->Prop)(fb:ao->List D->DM (ao×List D))(ρ0:Rh)(H0:Hp):Prop:=
 ∀pins δ l M s δ' l' M',CstG Z X pins acc ρ0 H0 δ l M [] s->fb δ l M=some (.ok (δ',l'),M')->W (fun s'=>CstG Z X pins acc ρ0 H0 δ' l' M' [] s') s
def BodyOk(X:Cx)(acc:Addr)(W:(Shared->Prop)->Shared->Prop)(fb:ao->List D->DM (ao×List D)):Prop:=
 ∀ρ0 H0,acc∈ρ0.vo->vq (ZL X.mg) X acc W fb ρ0 H0
theorem CstG.unpin(c:CstG Z X (pins++pl) acc ρ0 H0 δ l M [] s)(h:∀b∈fp,∃o,(b,o)∈pl) :
  CstG Z X pins acc ρ0 H0 δ l M fp s∧∀p∈pl,s.heap.get? p.1=some p.2:=by
 obtain⟨σ,H,ρ,o,I,x,j,ev,ha,cl,_⟩:=c.ex
 refine⟨⟨σ,H,ρ,o,I.unpinned,x,j,ev,ha,cl,fun b hb=>?_⟩,fun p hp=>(I.pin p (List.mem_append_right _ (List.mem_append_right _ hp))).1⟩
 obtain⟨o',ho⟩:=h b hb
 exact (I.pin (b,o') (List.mem_append_right _ (List.mem_append_right _ ho))).2.1
def uR(fg:D->ao->DM ao)(ft:ao->DM Bool)(fb:ao->List D->DM (ao×List D))(δf:ao)(lf:List D)(Mf:Mo):Itn->Nat->Nat->ao->List D->Mo->Prop
 |.fix ds,n,i,δ,l,M=>n=ds.length-i∧bN fg ft fb (ds.drop i) δ l M=some (.ok (δf,lf),Mf)
 |.dyn a,n,i,δ,l,M=>zN fg ft fb a n i δ l M=some (.ok (δf,lf),Mf)
theorem uR.step {fg:D->ao->DM ao}{ft:ao->DM Bool}{fb:ao->List D->DM (ao×List D)}{δf δ:ao}{lf l:List D}{Mf M:Mo}{it:Itn}{n i:Nat} (h:uR fg ft fb δf lf Mf it n i δ l M) :
  (it.next i M=some none∧δ=δf∧l=lf∧M=Mf)∨∃d δ1 M1 b M2 δ3 l3 M3 m,it.next i M=some (some d)∧fg d δ M=some (.ok δ1,M1)∧ft δ1 M1=some (.ok b,M2)∧(if b then fb δ1 l else pure (δ1,l)) M2=some (.ok (δ3,l3),M3)∧m<n∧uR fg ft fb δf lf Mf it m (i+1) δ3 l3 M3:=by
 cases it with
 | fix ds=>
   obtain⟨rfl,h⟩:=h
   cases hd:ds[i]? with
   |none=>
     rw[List.drop_eq_nil_of_le (List.getElem?_eq_none_iff.mp hd)] at h
     cases h
     exact .inl ⟨congrArg some hd,rfl,rfl,rfl⟩
   |some d=>
     obtain⟨hi',hd'⟩:=List.getElem?_eq_some_iff.mp hd
     have hl:ds.drop i=d::ds.drop (i+1):=by rw[←hd'];exact List.drop_eq_getElem_cons hi'
     rw[hl] at h
     obtain⟨δ1,M1,e1,h1⟩:=DM.bind_ok h
     obtain⟨b,M2,e2,h2⟩:=DM.bind_ok h1
     obtain⟨⟨δ3,l3⟩,M3,e3,h3⟩:=DM.bind_ok h2
     exact .inr ⟨d,δ1,M1,b,M2,δ3,l3,M3,ds.length-(i+1),congrArg some hd,e1,e2,e3,by lia,rfl,h3⟩
 | dyn a=>
   cases n with
   |zero=>cases h
   | succ n=>
     obtain⟨o,M0,e0,h⟩:=DM.bind_ok h
     obtain⟨o',q,z⟩:=Option.map_eq_some_iff.mp e0
     cases z
     cases o with
     |none=>cases h;exact .inl ⟨q,rfl,rfl,rfl⟩
     |some d=>
       obtain⟨δ1,M1,e1,h1⟩:=DM.bind_ok h
       obtain⟨b,M2,e2,h2⟩:=DM.bind_ok h1
       obtain⟨⟨δ3,l3⟩,M3,e3,h3⟩:=DM.bind_ok h2
       exact .inr ⟨d,δ1,M1,b,M2,δ3,l3,M3,n,q,e1,e2,e3,Nat.lt_succ_self _,h3⟩
theorem uR.start {fg:D->ao->DM ao}{ft:ao->DM Bool}{fb:ao->List D->DM (ao×List D)}{δf δ:ao}{lf l:List D}{Mf M:Mo}{it:Itn} (h:dC fg ft fb it δ l M=some (.ok (δf,lf),Mf)):∃ n,uR fg ft fb δf lf Mf it n 0 δ l M:=by
 cases it with
 |fix ds=>exact⟨_,rfl,h⟩
 |dyn a=>
   obtain⟨m,M0,e0,h⟩:=DM.bind_ok h
   obtain⟨m',q,z⟩:=Option.map_eq_some_iff.mp e0
   cases z
   exact⟨_,h⟩
theorem JD (hZ:Z.Ok) (hc:X.calm=true) (hxe:X.xe=fun _ _=>False) {depth:Nat}{bodyK:Sem Fin->Sem Fin}{W:(Shared->Prop)->Shared->Prop}
  (hturn:compTurn e depth (.ref it) (.ref acc) X.env=turnOf g bodyK (.compLoop e depth (.ref it) (.ref acc) X.env) (.ref it) X.env) (hW:lN X.prog X.w X.A bodyK W) (hmono:∀P P' s,(∀s,P s->P' s)->W P s->W P' s)
  {fg:D->ao->DM ao}{ft:ao->DM Bool}{fb:ao->List D->DM (ao×List D)} (hg:DG X E0 g.target fg) (ht:DTs X E0 g.ifs ft) {fp:List Addr}{tn:Nat->Heap->Prop} (T:Turn X.prog X.w X.K g.target Jt fp it tn) (iok:ItOk X.mg ρi Hi Jt itn) (hb:vq Z X acc W fb ρ0 H0) (kp0:∀ρ H,ExtB acc ρ0 H0 ρ H->Kp ρi Hi ρ H) {pins:List (Addr×Obj)}
  (fok:∀H',(∀b∈fp,H' b=none)->∀b∈fp,FpOk X pins H' b) {l:List D} (st:CstG Z X pins acc ρ0 H0 δ l M fp s) (htn:tn 0 s.heap) {lf:List D} (hrun:dC fg ft fb itn δ l M=some (.ok (δf,lf),Mf))
  {R:Result->Shared->Prop} (he:Az e) (hR:∀s',CstG Z X pins acc ρ0 H0 δf lf Mf fp s'->R (.ok .next) s') :
  codeAny (model X.prog X.w) X.A (.compLoop e depth (.ref it) (.ref acc) X.env) R s:=by
 obtain⟨n0,rem0⟩:=uR.start hrun
 refine Em (fun n s=>∃i δ l M,uR fg ft fb δf lf Mf itn n i δ l M∧CstG Z X pins acc ρ0 H0 δ l M fp s∧tn i s.heap) hturn hW ?_ hmono n0 ⟨0,δ,l,M,rem0,st,htn⟩ he
 rintro n s ⟨i,δ,l,M,rem,st,htn⟩
 obtain⟨σ,H,ρ,o,I,x,j,ev,ha,cl,fr⟩:=st.ex
 have kp:=kp0 _ _ x
 rcases rem.step with ⟨hd,rfl,rfl,rfl⟩ | ⟨d,δ1,M1,b,M2,δ3,l3,M3,m,hd,e1,e2,e3,hm,rem3⟩
 ·refine wpAny_mono (T.done X rfl rfl rfl hc i pins s σ H _ I (fok H fr) htn (iok.stop i ρ H _ kp j hd)) (fun r s1 h1=>?_) fun _ _ z=>z
  obtain⟨rfl,I1⟩:=h1
  exact hR s1 ⟨σ,H,ρ,o,I1,x,j,ev,ha,cl,fr⟩
 ·obtain ⟨go,yl⟩:=iok.item i ρ H M d kp j hd
  refine wpAny_mono (T.item X rfl rfl rfl hc i pins s σ H (fun _ _=>False) I (fok H fr) htn go) (fun r s1 h1=>?_) fun _ _ z=>z
  obtain⟨u,rfl,h1⟩:=h1
  refine wpAny_mono h1 (fun _ s2 h2=>?_) fun _ _ z=>z
  obtain⟨xv,H5,I5,r5,y5,tn5,fr5⟩:=h2
  obtain⟨x5,j5,c5⟩:=yl xv H5 y5
  have I5':=I5.pinned (fok H5 fr5) (T.obj _ _ tn5)
  refine wpAny_mono (hg.h _ s2 σ H5 xv u (fun σ6 H6=>∃ρ6,Ext ρ H5 ρ6 H6∧J X.mg ρ6 M1 H6∧Ev X.mg ρ6 H6 σ6 δ1) I5' r5 ⟨ρ,δ,M,d,ev.mono x5,j5,c5,_,e1,fun ρ6 H6 σ6 a1 a2 a3=>⟨ρ6,a1,a2,a3⟩⟩) (fun _ s3 h3=>?_) fun _ _ z=>by rw[hxe] at z;exact z
  obtain⟨σ6,H6,I6,ρ6,x6,j6,ev6⟩:=h3
  refine wpAny_mono (ht.h _ s3 σ6 H6 (fun b' H7=>b'=b∧∃ρ7,Ext ρ6 H6 ρ7 H7∧J X.mg ρ7 M2 H7) I6 ⟨ρ6,δ1,M1,ev6,j6,_,e2,fun ρ7 H7 b' a1 a2 a3=>⟨a3,ρ7,a1,a2⟩⟩) (fun ok s4 h4=>?_) fun _ _ z=>by rw[hxe] at z;exact z
  obtain⟨H7,I7,rfl,ρ7,x7,j7⟩:=h4
  have nacc:acc∉ρ.st:=x.na
  have na6:acc∉ρ6.st:=fun z=>by
   have h5:=x5.keep acc _ ha nacc
   have:=x6.new acc z nacc
   rw[h5] at this;cases this
  have ha5:=x5.keep acc _ ha nacc
  have ha6:=x6.keep acc _ ha5 nacc
  have na7:acc∉ρ7.st:=fun z=>by
   have:=x7.new acc z na6
   rw[ha6] at this;cases this
  have ha7:=x7.keep acc _ ha6 na6
  have xb:ExtB acc ρ0 H0 ρ7 H7:=((x.trans (x5.b nacc)).trans (x6.b na6)).trans (x7.b na7)
  have ct:CstG Z X (pins++pinsAt fp s2.heap) acc ρ0 H0 δ1 l M2 [] s4:=⟨σ6,H7,ρ7,o,I7,xb,j7,ev6.mono x7,ha7,hZ _ _ _ _ _ _ _ (hZ _ _ _ _ _ _ _ (hZ _ _ _ _ _ _ _ cl x5) x6) x7,fun b hb=>nomatch hb⟩
  have fin:∀s5,CstG Z X (pins++pinsAt fp s2.heap) acc ρ0 H0 δ3 l3 M3 [] s5->∃m,m<n∧∃i δ l M,uR fg ft fb δf lf Mf itn m i δ l M∧CstG Z X pins acc ρ0 H0 δ l M fp s5∧tn i s5.heap:=fun s5 c5=>by
   obtain⟨c6,pp⟩:=c5.unpin (fp:=fp) fun b hb=>by
    obtain⟨o,eo,_⟩:=T.obj _ _ tn5 b hb
    exact⟨o,mem_pinsAt hb eo⟩
   exact⟨m,hm,i+1,δ3,l3,M3,rem3,c6,T.keep _ _ _ tn5 fun b hb o eo=>pp (b,o) (mem_pinsAt hb eo)⟩
  cases ok with
  |true=>exact iteT (hmono _ _ _ fin (hb _ δ1 l M2 s4 δ3 l3 M3 ct e3))
  |false=>
    cases e3
    exact iteF (fin s4 ct)
theorem yI{X:Cx}(hxe:X.xe=fun _ _=>False){elt:Expr}{fe:ao->DM D}{acc:Addr}(he:DE X E0 elt fe) :
  BodyOk X acc (fun P s=>wpAny (model X.prog X.w) X.A (eval elt X.env) (fun x s1=>wpAny (model X.prog X.w) X.A (call (.builtin "list.append") [.ref acc,x]) (fun _ s2=>P s2) (fun _ _=>False) s1) (fun _ _=>False) s) (cT fe):=by
 intro ρ0 H0 hacc pins δ l M s δ' l' M' ct e
 obtain⟨d,M1,e1,e2⟩:=DM.bind_ok e
 obtain⟨σ,H,ρ,o,I,x,j,ev,ha,⟨ys,rfl,cl⟩,_⟩:=ct.ex
 split at e2
 rotate_left
 ·cases e2
 rename_i hz
 cases e2
 refine wpAny_mono (he.h pins s σ H (fun v H1=>∃ρ1,Ext ρ H ρ1 H1∧J X.mg ρ1 M' H1∧Cv X.mg ρ1 H1 v d) I ⟨ρ,δ,M,ev,j,_,e1,fun ρ1 H1 v a1 a2 a3=>⟨ρ1,a1,a2,a3⟩⟩) (fun u s1 h1=>?_) fun _ _ z=>by rw[hxe] at z;exact z
 obtain⟨v,H1,I1,rv,ρ1,x1,j1,c1⟩:=h1
 have nacc:acc∉ρ.st:=x.na
 have ha1:=x1.keep acc _ ha nacc
 have na1:acc∉ρ1.st:=fun z=>by
  have:=x1.new acc z nacc
  rw[ha] at this;cases this
 have hv1:acc∈ρ1.vo:=by rw[x1.vo,x.vo];exact hacc
 refine wpAny_mono (mt_append (X:=X) pins s1 σ H1 (.ref acc) [v] (.ref acc) [u] (fun _ H'=>H'=upd H1 acc (.lst (ys++[v]))) I1 rfl (.cons rv .nil) ⟨_,ys,v,rfl,rfl,ha1,by rw[cl.len];exact hz,rfl⟩) (fun _ s2 h2=>?_) fun _ _ z=>by rw[hxe] at z;exact z
 obtain⟨_,H2,I2,_,rfl⟩:=h2
 exact⟨σ,_,ρ1,_,I2,(x.trans (x1.b na1)).trans (.grow na1),j1.grow hv1,(ev.mono x1).kp ((ExtB.grow na1).kp hv1),upd_same,⟨ys++[v],rfl,((cl.mono x1).append (.cons c1 .nil)).hold hv1⟩,fun b hb=>nomatch hb⟩
def dY{α:Type}(m:DM α):DM α:=fun M=>match m M with
 |some (.ok a,M')=>some (.ok a,M')
 |_=>none
theorem sX(h:dY m M=some r):∃a M',m M=some (.ok a,M')∧r=(.ok a,M'):=by
 unfold dY at h
 split at h
 ·rename_i a M' e
  cases h
  exact⟨a,M',e,rfl⟩
 ·cases h
def cZ(js:List Nat)(δ:ao):ao:=js.map fun j=>(δ[j]?).getD none
def bY(k:Nat)(js:List Nat)(δ:ao):ao:=List.replicate k none++cZ js δ
theorem yJ (ev:Ev mg ρ H σ δ) (k:Nat) (js:List Nat):Ev mg ρ H (List.replicate k none++pick js σ) (bY k js δ):=by
 unfold bY pick cZ
 refine⟨by simp,fun i d q=>?_⟩
 by_cases hi:i<k
 ·rw[List.getElem?_append_left (by rw[List.length_replicate];exact hi),List.getElem?_replicate] at q
  split at q<;>cases q
 ·rw [List.getElem?_append_right (by rw [List.length_replicate];lia),List.length_replicate,List.getElem?_map] at q ⊢
  cases hj:js[i-k]? with
  |none=>rw[hj] at q;cases q
  | some j=>
    rw[hj] at q
    have q:(δ[j]?).getD none=some d:=Option.some.inj q
    have q':δ[j]?=some (some d):=by
     cases z:δ[j]? with
     |none=>rw[z] at q;cases q
     |some o=>rw[z] at q;exact congrArg some q
    obtain⟨v,h1,h2⟩:=ev.val j d q'
    exact⟨v,by show some ((σ[j]?).getD none)=_;rw[h1];rfl,h2⟩
theorem wU(hp:H p=none):Kp ρ H (ρ.hold p) (upd H p o):=⟨⟨[],by show ρ.st=_;simp⟩,fun a u h n _=>⟨Rh.nhold n (ne_of_none h hp),by rw[upd_ne (ne_of_none h hp)];exact h⟩⟩
inductive Out where
 |val | sto
def Out.run:Out->List D->DM D
 |.val,l=>pure (.lst l)
 |.sto,l=>fun M=>some (.ok (.ref M.length),M++[.lst l])
theorem Out.fin (o:Out) (hf:H2 acc=none) (hn:acc∉ρ1) (x:ExtB acc (ρ1.hold acc) (upd H2 acc (.lst [])) ρ4 H4) (j:J mg ρ4 M H4) (ha:H4 acc=some (.lst ys)) (c:Cvs mg ρ4 H4 ys l)
  (g:Go mg E (Cv mg) Q ρ1 H2 (o.run l) M):Q (.ref acc) H4:=by
 have hv:ρ4.vo=acc::ρ1.vo:=x.vo
 have na:acc∉ρ1.vo:=fun z=>hn (.inr z)
 have nw:∀a,a∈ρ4.st->a∉ρ1.st->H2 a=none:=fun a h n=>by
  have:=x.new a h n
  by_cases z:a=acc
  ·rw[z,upd_same] at this;cases this
  ·rw[upd_ne z] at this;exact this
 have kp:∀a o,H2 a=some o->a∉ρ1.st->H4 a=some o:=fun a o h n=>x.keep a o (by rw[upd_ne (ne_of_none h hf)];exact h) n (ne_of_none h hf)
 cases o with
 | val=>
   have e:Ext ρ1 H2 ⟨ρ4.st,ρ1.vo⟩ H4:=⟨x.pre,rfl,nw,kp⟩
   have jd:J mg ⟨ρ4.st,ρ1.vo⟩ M H4:=J.done (ρ:=ρ1) j hv
   have cd:Cvs mg ⟨ρ4.st,ρ1.vo⟩ H4 ys l:=Cvs.less (ρ:=ρ4) (ρ1:=⟨ρ4.st,ρ1.vo⟩) rfl (fun a h=>by rw[hv];exact .tail _ h) c
   exact Go.pure (a:=D.lst l) g ⟨ρ4.st,ρ1.vo⟩ H4 (.ref acc) e jd (.lst (fun z=>by
    rcases z with z | z
    ·exact x.na z
    ·exact na z) ha cd)
 | sto=>
   obtain⟨r,er,p⟩:=g
   cases er
   have k4:Kp ρ4 H4 ⟨ρ4.st++[acc],ρ1.vo⟩ H4:=⟨⟨[acc],rfl⟩,fun a o h n _=>⟨fun z=>by
    rcases z with z | z
    ·rcases List.mem_append.mp z with z | z
     ·exact n (.inl z)
     ·exact n (.inr (by rw[hv,List.mem_singleton.mp z];exact .head _))
    ·exact n (.inr (by rw[hv];exact .tail _ z)),h⟩⟩
   have e:Ext ρ1 H2 ⟨ρ4.st++[acc],ρ1.vo⟩ H4:=by
    refine⟨?_,rfl,fun a h n=>?_,kp⟩
    ·obtain⟨τ,h1⟩:=x.pre
     exact⟨τ++[acc],by show ρ4.st++[acc]=_;rw[h1,List.append_assoc];rfl⟩
    ·rcases List.mem_append.mp h with z | z
     ·exact nw a z n
     ·rw[List.mem_singleton.mp z];exact hf
   have jd:J mg ⟨ρ4.st++[acc],ρ1.vo⟩ (M++[.lst l]) H4:=by
    refine⟨by show (ρ4.st++[acc]).length=_;rw[List.length_append,List.length_append,j.len];rfl,?_,fun n a w h1 h2=>?_,fun a h=>?_⟩
    ·show (ρ4.st++[acc]).Nodup
     rw[List.nodup_append]
     exact⟨j.nd,by simp,fun x' hx y hy e=>by rw[List.mem_singleton.mp hy] at e;exact x.na (e ▸ hx)⟩
    ·have h1:(ρ4.st++[acc])[n]?=some a:=h1
     by_cases hl:n<ρ4.st.length
     ·rw[List.getElem?_append_left hl] at h1
      rw[List.getElem?_append_left (by rw[←j.len];exact hl)] at h2
      exact (j.obj n a w h1 h2).map rfl fun vs ds c=>c.kp k4
     ·have hl':n<(ρ4.st++[acc]).length:=(List.getElem?_eq_some_iff.mp h1).1
      rw[List.length_append] at hl'
      have e:n=ρ4.st.length:=by have:[acc].length=1:=rfl;lia
      subst e
      rw[List.getElem?_append_right (Nat.le_refl _)] at h1
      rw[j.len,List.getElem?_append_right (Nat.le_refl _)] at h2
      simp at h1 h2
      subst h1 h2
      exact⟨ys,ha,c.kp k4⟩
    ·have h:a∈ρ1.vo:=h
     obtain⟨y1,y2⟩:=j.vol a (by rw[hv];exact .tail _ h)
     refine⟨fun z=>?_,y2⟩
     rcases List.mem_append.mp z with z | z
     ·exact y1 z
     ·exact na (List.mem_singleton.mp z ▸ h)
   refine p _ H4 (.ref acc) e jd (.ref ?_)
   show (ρ4.st++[acc])[_]?=_
   rw[←j.len];simp
structure Beg(X:Cx)(Z:ZK)(ob:Obj)(o0:Addr->HO)(g:Rh->Addr->Rh)(mk:Sem Value):Prop where
 ok:Z.Ok
 nw:∀(A:Around) (E:Value->Shared->Prop) (s:Shared) (Q:Value->Shared->Prop),Q (.ref s.heap.objs.size) { s with heap:=s.heap.push ob }->wpAny (model X.prog X.w) A mk Q E s
 hob:∀(H:Hp) (h:Heap) (a:Addr),h.get? a=some ob->ObjOk X.prog X.w H h a (o0 a)
 fr:ob.isFreed=false
 j:∀{ρ M H a},H a=none->J X.mg ρ M H->J X.mg (g ρ a) M (upd H a (o0 a))
 ev:∀{ρ H a σ δ},H a=none->Ev X.mg ρ H σ δ->Ev X.mg (g ρ a) (upd H a (o0 a)) σ δ
 kp:∀{ρ H a ρ' H'},H a=none->ExtB a (g ρ a) (upd H a (o0 a)) ρ' H'->Kp ρ H ρ' H'
 st:∀ρ a,(g ρ a).st=ρ.st
 z:∀ρ H a,Z a ρ H (o0 a) []
section
variable{X:Cx}{E:XK}{Z:ZK}{ob:Obj}{o0:Addr->HO}{gr:Rh->Addr->Rh}{mk:Sem Value}{scope:Scope}{cl:List (Str×Addr)}{own:List Str}{js:List Nat}{fr:List Str}{e t0 i0:Expr}{f0:List Expr}{gs:List Comprehension}{pos:Pos}{fi:ao->DM Itn}{fg:D->ao->DM ao}{ft:ao->DM Bool}{fb:ao->List D->DM (ao×List D)}
  {bodyK:Cx->Addr->Sem Fin->Sem Fin}{W:Cx->Addr->(Shared->Prop)->Shared->Prop}{α:Type}{Rv:Rh->Hp->V->α->Prop}{Q:VK}{fin:List D->DM α}{use:Option (Value->Sem Unit)}{Qs:Value->Shared->Prop}{pins:List (Addr×Obj)}{σ:L2.St}{H:Hp}{s:Shared}{ρ:Rh}{δ:ao}{M:Mo}
theorem uX (B:Beg X Z ob o0 gr mk) (he:Az e) (hcl:clausesOf e=⟨t0,i0,f0,0⟩::gs) (hc:X.calm=true) (T:CompG X scope cl own js fr) (hi:DI X E t0 i0 fi)
  (hturn:∀(Y:Cx) it acc,compTurn e 0 (.ref it) (.ref acc) Y.env=turnOf ⟨t0,i0,f0,0⟩ (bodyK Y acc) (.compLoop e 0 (.ref it) (.ref acc) Y.env) (.ref it) Y.env)
  (hW:∀Y acc,lN Y.prog Y.w Y.A (bodyK Y acc) (W Y acc)) (hmono:∀Y acc P P' s,(∀s,P s->P' s)->W Y acc P s->W Y acc P' s)
  (hg:∀pins m fp C s₂ H₂,DG (X.bB pins scope (cellsFrom m scope.names cl) (own++fr) fp C s₂ H₂) E0 t0 fg) (ht:∀pins m fp C s₂ H₂,DTs (X.bB pins scope (cellsFrom m scope.names cl) (own++fr) fp C s₂ H₂) E0 f0 ft)
  (hb:∀pins m fp C s₂ H₂ acc ρ H0,vq Z (X.bB pins scope (cellsFrom m scope.names cl) (own++fr) fp C s₂ H₂) acc (W (X.bB pins scope (cellsFrom m scope.names cl) (own++fr) fp C s₂ H₂) acc) fb (gr ρ acc) H0)
  (hs:∀y,foldedSetIterable i0 X.env y=pure y) (I:Inv X pins σ H s) (ev:Ev X.mg ρ H σ δ) (j:J X.mg ρ M H) (g1:Go X.mg E Rv Q ρ H (fi δ>>=fun it=>dY (dC fg ft fb it (bY own.length js δ) [])>>=fun p=>fin p.2) M)
  (hfin:∀s2 H2 fp C m acc ρ1 lf Mf s',Inv X pins σ H2 s2->(∀b∈fp,FpOk X pins H2 b)->s2.heap.objs.size≤acc->s2.heap.objs.size≤C->H2 acc=none->acc∉ρ1->(∃δf,CstG Z (X.bB pins scope (cellsFrom m scope.names cl) (own++fr) fp C s2 H2) [] acc (gr ρ1 acc) (upd H2 acc (o0 acc)) δf lf Mf fp s')->Go X.mg E Rv Q ρ1 H2 (fin lf) Mf->
    compPost (model X.prog X.w) X.A X.xe use Qs (.ref acc) C (.ok .next) s') :
  wpAny (model X.prog X.w) X.A (comprehension e scope X.env pos mk false (eval i0 X.env) use) Qs X.xe s:=by
 refine wpAny_comprehension_free (cl:=cl) (use:=use) hcl hs T.clos T.kind T.names ?_
 refine thn (hi.h pins s σ H (fun Jt H1=>∃ρ1 M1 it,Ext ρ H ρ1 H1∧J X.mg ρ1 M1 H1∧ItOk X.mg ρ1 H1 Jt it∧Go X.mg E Rv Q ρ1 H1 (dY (dC fg ft fb it (bY own.length js δ) [])>>=fun p=>fin p.2) M1) I
  ⟨ρ,δ,M,ev,j,g1.bind fun ρ1 H1 M1 Jt it e1 j1 iok g2=>⟨ρ1,M1,it,e1,j1,iok,g2⟩⟩) fun v s1 h1=>thn h1 fun itv s2 h2=>?_
 obtain⟨it,fp,tn,Jt,H2,rfl,I2,Tn,st2,f2,ρ1,M1,itn,x1,j1,iok,g2⟩:=h2
 have hrun:∃δf lf Mf,dC fg ft fb itn (bY own.length js δ) [] M1=some (.ok (δf,lf),Mf)∧Go X.mg E Rv Q ρ1 H2 (fin lf) Mf:=by
  obtain⟨r,e,p⟩:=g2
  have e:DM.bind _ _ M1=some r:=e
  unfold DM.bind at e
  split at e
  ·cases e
  ·rename_i c M' em
   obtain⟨a,M'',_,z⟩:=sX em
   cases z
  ·rename_i a M' em
   obtain⟨a',M'',e1,z⟩:=sX em
   cases z
   exact⟨a.1,a.2,M',e1,r,e,p⟩
 obtain⟨δf,lf,Mf,hrun,g3⟩:=hrun
 refine B.nw _ _ _ _ (Ci ?_)
 have hlt:∀b∈fp,b<s2.heap.objs.size:=fun b hb=>by
  obtain⟨o,e,_⟩:=Tn.obj _ _ st2 b hb
  exact Heap.lt_size e
 dsimp only
 generalize hP:s2.heap.push ob=hp1
 have hCs:hp1.objs.size=s2.heap.objs.size+1:=by rw[←hP,Heap.size_push]
 have hCe:hp1.objs.size+1=(hp1.push { cls:=.type "dict",data:=.dict #[] }).objs.size:=by rw[Heap.size_push]
 have hC:s2.heap.objs.size≤hp1.objs.size:=by lia
 have hne:hp1.objs.size≠s2.heap.objs.size:=by lia
 have old1:∀b o,s2.heap.get? b=some o->hp1.get? b=some o:=fun b o e=>by rw[←hP];exact Heap.get?_push_of_some _ e
 have old:∀b o,s2.heap.get? b=some o->(pushCells (hp1.push { cls:=.type "dict",data:=.dict #[] }) scope.names).get? b=some o:=fun b o e=>pushCells_keeps _ _ _ _ (Heap.get?_push_of_some _ (old1 b o e))
 have new:=pushCells_keeps scope.names _ _ _ (Heap.get?_push_of_some { cls:=.type "dict",data:=.dict #[] } (show hp1.get? s2.heap.objs.size=some ob by rw[←hP];exact Heap.get?_push_size _ B.fr))
 have ns:(pushCells (hp1.push { cls:=.type "dict",data:=.dict #[] }) scope.names).Ns hp1.objs.size fun _=>none:=(Heap.Ns.new hp1 (.type "dict")).keeps (pushCells_keeps _ _)
 have hfree:H2 s2.heap.objs.size=none:=I2.hok.fresh (Nat.le_refl _)
 have IC:=zF (t':=s2.toks) T I2 f2 hlt old (Nat.le_refl _) hC hne hCe (Nat.le_trans hC (Nat.le_succ _)) (Nat.lt_succ_self _) (Nat.lt_succ_of_le hC) rfl (B.hob _ _ _ new) ns
 have OK:=IC.ok
 have fok:∀H',(∀b∈fp,H' b=none)->∀b∈fp,FpOk (X.bB pins scope (cellsFrom (hp1.objs.size+1) scope.names cl) (own++fr) fp hp1.objs.size s2 H2) [] H' b:=fun H' hn b hb=>by
  obtain⟨_,g2,g3,g4,g5,g6⟩:=f2 b hb
  refine⟨hn b hb,Nat.ne_of_lt (Nat.lt_of_lt_of_le (hlt b hb) hC),fun hm=>?_,.inl hb,(OK.exf b hb).2,fun p hp=>g6 p (by simpa using hp)⟩
  rcases List.mem_cons.mp (I2.stkSub _ hm) with z | z
  ·exact g2 z
  ·exact g3 z
 have fp1:∀b∈fp,upd H2 s2.heap.objs.size (o0 s2.heap.objs.size) b=none:=fun b hb=>by rw[upd_ne (Nat.ne_of_lt (hlt b hb))];exact (f2 b hb).1
 have nf:=j1.fresh hfree
 have st:CstG Z (X.bB pins scope (cellsFrom (hp1.objs.size+1) scope.names cl) (own++fr) fp hp1.objs.size s2 H2) [] s2.heap.objs.size (gr ρ1 s2.heap.objs.size) (upd H2 s2.heap.objs.size (o0 s2.heap.objs.size)) (bY own.length js δ) [] M1 fp
   { s2 with heap:=pushCells (hp1.push { cls:=.type "dict",data:=.dict #[] }) scope.names,toks:=s2.toks }:=
  ⟨_,_,_,_,IC,.refl (fun z=>nf (.inl (by rw[←B.st ρ1];exact z))),B.j hfree j1,B.ev hfree (yJ (ev.mono x1) _ _),upd_same,B.z _ _ _,fp1⟩
 have tn0:tn 0 (pushCells (hp1.push { cls:=.type "dict",data:=.dict #[] }) scope.names):=Tn.keep _ _ _ st2 (fun b _ o e=>old b o e)
 have loop:codeAny (model X.prog X.w) X.A (.compLoop e 0 (.ref it) (.ref s2.heap.objs.size) (compEnvC scope (cellsFrom (hp1.objs.size+1) scope.names cl) hp1.objs.size X.env))
   (compPost (model X.prog X.w) X.A X.xe use Qs (.ref s2.heap.objs.size) hp1.objs.size) { s2 with heap:=pushCells (hp1.push { cls:=.type "dict",data:=.dict #[] }) scope.names,toks:=s2.toks }:=
  JD (X:=X.bB pins scope (cellsFrom (hp1.objs.size+1) scope.names cl) (own++fr) fp hp1.objs.size s2 H2) B.ok hc rfl (hturn _ _ _) (hW _ _) (hmono _ _) (hg ..) (ht ..) Tn iok (hb pins (hp1.objs.size+1) fp hp1.objs.size s2 H2 s2.heap.objs.size ρ1 _) (fun _ _ x=>B.kp hfree x) fok st tn0 hrun he fun s' c'=>hfin s2 H2 fp _ _ _ ρ1 lf Mf s' I2 f2 (Nat.le_refl _) hC hfree nf ⟨_,c'⟩ g3
 show codeAny _ _ (.compStart _ 0 (.ref it) (.ref s2.heap.objs.size) (compEnvC scope (cellsFrom (hp1.objs.size+1) scope.names cl) hp1.objs.size X.env)) _ _
 exact CZ (by rw[hcl];rfl) rfl loop (Tn.self X.A 0 _ _ _ tn0 loop) he
theorem Eb(B:Beg X Z ob o0 gr mk)(he:Az e)(hcl:clausesOf e=⟨t0,i0,f0,0⟩::gs)(hc:X.calm=true)(T:CompG X scope cl own js fr)(hi:DI X E t0 i0 fi)
  (hturn:∀(Y:Cx) it acc,compTurn e 0 (.ref it) (.ref acc) Y.env=turnOf ⟨t0,i0,f0,0⟩ (bodyK Y acc) (.compLoop e 0 (.ref it) (.ref acc) Y.env) (.ref it) Y.env)
  (hW:∀Y acc,lN Y.prog Y.w Y.A (bodyK Y acc) (W Y acc)) (hmono:∀Y acc P P' s,(∀s,P s->P' s)->W Y acc P s->W Y acc P' s)
  (hg:∀pins m fp C s₂ H₂,DG (X.bB pins scope (cellsFrom m scope.names cl) (own++fr) fp C s₂ H₂) E0 t0 fg) (ht:∀pins m fp C s₂ H₂,DTs (X.bB pins scope (cellsFrom m scope.names cl) (own++fr) fp C s₂ H₂) E0 f0 ft)
  (hb:∀pins m fp C s₂ H₂ acc ρ H0,vq Z (X.bB pins scope (cellsFrom m scope.names cl) (own++fr) fp C s₂ H₂) acc (W (X.bB pins scope (cellsFrom m scope.names cl) (own++fr) fp C s₂ H₂) acc) fb (gr ρ acc) H0)
  (hs:∀y,foldedSetIterable i0 X.env y=pure y)
  (hq:∀(Q:VK) acc H2 ρ1 lf Mf H4 ρ4 o,H2 acc=none->acc∉ρ1->ExtB acc (gr ρ1 acc) (upd H2 acc (o0 acc)) ρ4 H4->J X.mg ρ4 Mf H4->H4 acc=some o->Z acc ρ4 H4 o lf->Go X.mg E Rv Q ρ1 H2 (fin lf) Mf->Q (.ref acc) H4)
  (ee:eval e X.env=comprehension e scope X.env pos mk false (eval i0 X.env) none) :
  PE X e (tD X.mg E Rv fun δ=>fi δ>>=fun it=>dY (dC fg ft fb it (bY own.length js δ) [])>>=fun p=>fin p.2):=by
 intro pins s σ H Q I h
 obtain⟨ρ,δ,M,ev,j,g1⟩:=h
 rw[ee]
 refine uX B he hcl hc T hi hturn hW hmono hg ht hb hs I ev j g1 fun s2 H2 fp C m acc ρ1 lf Mf s' I2 f2 hA hC hfree nf c' g3=>?_
 obtain⟨δf,c'⟩:=c'
 obtain⟨σ4,H4,ρ4,o,I4,x4,j4,ev4,ha4,z4,fr4⟩:=c'.ex
 obtain⟨m4,hn4,_⟩:=I4.loc
 refine⟨m4,hn4,fun h' hsb'=>?_⟩
 have un:=Dl I4.base hsb' hC
 have ok4:=yL I4.hok hsb' I4.free
 exact⟨.ref acc,H4,I2.call' (s':={ s' with heap:=h' }) (ch:=fp) (I4.os) un ok4 I4.bare (fun b hb=>by
  obtain⟨_,g2,g3,g4,g5,g6⟩:=f2 b hb
  exact⟨g4,g2,g5,g6⟩),rfl,hq Q acc H2 ρ1 lf Mf H4 ρ4 o hfree nf x4 j4 ha4 z4 g3⟩
end
theorem Beg.list:Beg X (ZL X.mg) { cls:=.type "list",dict:=none,data:=.seq ([]:List Value).toArray } (fun _=>.lst []) Rh.hold (newList []) where
 ok:=ZL.ok
 nw:=fun A E s Q q=>by unfold newList;exact wpAny_newObj_type q
 hob:=fun H h a e=>⟨Nat.zero_le _,[],_,.nil,e⟩
 fr:=rfl
 j:=fun h j=>j.begin h
 ev:=fun h e=>e.kp (wU h)
 kp:=fun h x=>(wU h).trans (x.kp (.head _))
 st:=fun _ _=>rfl
 z:=fun _ _ _=>⟨[],rfl,.nil⟩
theorem DY{cl:List (Str×Addr)}{own:List Str}{js:List Nat}{fr:List Str}{f0:List Expr}{gs:List Comprehension}{fi:ao->DM Itn}{fg:D->ao->DM ao}{ft:ao->DM Bool}{fb:ao->List D->DM (ao×List D)}
  {bodyK:Cx->Addr->Sem Fin->Sem Fin}{W:Cx->Addr->(Shared->Prop)->Shared->Prop} (o:Out) (hc:X.calm=true) (T:CompG X scope cl own js fr) (hi:DI X E t0 i0 fi)
  (hturn:∀(Y:Cx) it acc,compTurn (.ListComp elt (⟨t0,i0,f0,0⟩::gs) scope pos) 0 (.ref it) (.ref acc) Y.env=turnOf ⟨t0,i0,f0,0⟩ (bodyK Y acc) (.compLoop (.ListComp elt (⟨t0,i0,f0,0⟩::gs) scope pos) 0 (.ref it) (.ref acc) Y.env) (.ref it) Y.env)
  (hW:∀Y acc,lN Y.prog Y.w Y.A (bodyK Y acc) (W Y acc)) (hmono:∀Y acc P P' s,(∀s,P s->P' s)->W Y acc P s->W Y acc P' s)
  (hg:∀pins m fp C s₂ H₂,DG (X.bB pins scope (cellsFrom m scope.names cl) (own++fr) fp C s₂ H₂) E0 t0 fg) (ht:∀pins m fp C s₂ H₂,DTs (X.bB pins scope (cellsFrom m scope.names cl) (own++fr) fp C s₂ H₂) E0 f0 ft)
  (hb:∀pins m fp C s₂ H₂ acc,BodyOk (X.bB pins scope (cellsFrom m scope.names cl) (own++fr) fp C s₂ H₂) acc (W (X.bB pins scope (cellsFrom m scope.names cl) (own++fr) fp C s₂ H₂) acc) fb)
  (hs:∀y,foldedSetIterable i0 X.env y=pure y:=by intro _;rfl) :
  DE X E (.ListComp elt (⟨t0,i0,f0,0⟩::gs) scope pos) (fun δ=>fi δ>>=fun it=>dY (dC fg ft fb it (bY own.length js δ) [])>>=fun p=>o.run p.2):=
 ⟨Eb Beg.list (.inl ⟨_,_,_,_,rfl⟩) rfl hc T hi hturn hW hmono hg ht (fun _ _ _ _ _ _ _ _ _=>hb _ _ _ _ _ _ _ _ _ (.head _)) hs (fun Q acc H2 ρ1 lf Mf H4 ρ4 o' hf nf x4 j4 ha4 ⟨ys,e,c⟩ g=>o.fin hf nf x4 j4 (e ▸ ha4) c g) (eval_ListComp ..)⟩
theorem lV{cl:List (Str×Addr)}{own:List Str}{js:List Nat}{fr:List Str}{f0:List Expr}{fi:ao->DM Itn}{fg:D->ao->DM ao}{ft:ao->DM Bool}{fe:ao->DM D}
  (o:Out) (hc:X.calm=true) (T:CompG X scope cl own js fr) (hi:DI X E t0 i0 fi)
  (hg:∀pins m fp C s₂ H₂,DG (X.bB pins scope (cellsFrom m scope.names cl) (own++fr) fp C s₂ H₂) E0 t0 fg) (ht:∀pins m fp C s₂ H₂,DTs (X.bB pins scope (cellsFrom m scope.names cl) (own++fr) fp C s₂ H₂) E0 f0 ft)
  (he:∀pins m fp C s₂ H₂,DE (X.bB pins scope (cellsFrom m scope.names cl) (own++fr) fp C s₂ H₂) E0 elt fe)
  (hs:∀y,foldedSetIterable i0 X.env y=pure y:=by intro _;rfl) :
  DE X E (.ListComp elt [⟨t0,i0,f0,0⟩] scope pos) (fun δ=>fi δ>>=fun it=>dY (dC fg ft (cT fe) it (bY own.length js δ) [])>>=fun p=>o.run p.2):=
 DY (bodyK:=fun Y acc=>su elt (.ref acc) Y.env) (W:=fun Y acc P s=>wpAny (model Y.prog Y.w) Y.A (eval elt Y.env) (fun x s1=>wpAny (model Y.prog Y.w) Y.A (call (.builtin "list.append") [.ref acc,x]) (fun _ s2=>P s2) (fun _ _=>False) s1) (fun _ _=>False) s) o hc T hi
  (fun Y it acc=>Gp ..) (fun Y acc=>Bt) (fun Y acc P P' s hp h=>wpAny_mono h (fun x s1 h1=>wpAny_mono h1 (fun _ s2 h2=>hp _ h2) fun _ _ z=>z) fun _ _ z=>z) hg ht (fun pins m fp C s₂ H₂ acc=>yI rfl (he ..)) hs
theorem boot_zip:bootBuiltins "zip"=some (.type "zip"):=by decide +kernel
def frz:D->Option (Bool×List D)
 |.tup l=>some (true,l)
 |.lst l=>some (false,l)
 |_=>none
def pairs:List D->List D->List D
 |x::xs,y::ys=>.tup [x,y]::pairs xs ys
 |_,_=>[]
def xY:List D->Option Itn
 |[x,y]=>match frz x,frz y with
   |some (_,l),some (_,m)=>some (.fix (pairs l m))
   |_,_=>none
 |_=>none
theorem pairs_at:∀ (l m:List D) (i:Nat),(pairs l m)[i]?=match l[i]?,m[i]? with
  |some x,some y=>some (.tup [x,y])
  |_,_=>none
 |[],m,i=>by simp[pairs]
 |x::xs,[],i=>by
   cases i with
   |zero=>simp[pairs]
   |succ i=>simp only[pairs,List.getElem?_nil,List.getElem?_cons_succ];cases xs[i]?<;>rfl
 |x::xs,y::ys,0=>by simp[pairs]
 |x::xs,y::ys,i+1=>by simp only[pairs,List.getElem?_cons_succ];exact pairs_at xs ys i
section
variable{mg:Str->Option Value}{ρ:Rh}{H:Hp}
theorem wO{K:PySem.W.Frag}{x:V}{d:D}{b:Bool}{l:List D}(c:Cv mg ρ H x d)(e:frz d=some (b,l)):∃a xs,x=.ref a∧a∉ρ∧H a=some (if b then .tup xs else .lst xs)∧Cvs mg ρ H xs l:=by
 cases c with
 |tup n h c=>cases e;exact⟨_,_,rfl,n,h,c⟩
 |lst n h c=>cases e;exact⟨_,_,rfl,n,h,c⟩
 |_=>cases e
theorem nA{K:PySem.W.Frag}{b:Bool}{a:Addr}{xs:List V}(h:H a=some (if b then .tup xs else .lst xs)):km b K H a xs:=by
 cases b with
 |true=>exact SqT.of h
 |false=>exact SqL.of h
theorem ne_if:∀φ,(if b=true then HO.tup xs else HO.lst ys)≠HO.ext φ:=by cases b<;>nofun
theorem Jp {K:PySem.W.Frag}{b1 b2:Bool}{l1 l2:Addr}{xs ys:List V}{ds es:List D} (n1:l1∉ρ) (n2:l2∉ρ) (h1:H l1=some (if b1 then .tup xs else .lst xs)) (h2:H l2=some (if b2 then .tup ys else .lst ys)) (c1:Cvs mg ρ H xs ds) (c2:Cvs mg ρ H ys es):ItOk mg ρ H (Ms K b1 b2 l1 l2) (.fix (pairs ds es)) where
 item:=fun i ρ' H' M' d e j q=>by
  have hq:(pairs ds es)[i]?=some d:=Option.some.inj q
  rw[pairs_at] at hq
  split at hq
  ·rename_i dx dy e1 e2
   cases hq
   obtain⟨x,hx,cx⟩:=c1.get e1
   obtain⟨y,hy,cy⟩:=c2.get e2
   have k1:=(e.keep _ _ h1 n1 ne_if).2
   have k2:=(e.keep _ _ h2 n2 ne_if).2
   refine⟨⟨xs,ys,x,y,nA k1,nA k2,hx,hy⟩,fun v H2 z=>?_⟩
   obtain⟨p,hp,rfl,z⟩:=z
   obtain⟨x',y',hx',hy',rfl⟩:=z xs ys (nA k1) (nA k2)
   rw[hx] at hx';cases hx'
   rw[hy] at hy';cases hy'
   exact⟨.lay hp,j.lay _ hp,.tup (j.fresh hp) upd_same (.cons ((cx.kp e).mono (.lay hp)) (.cons ((cy.kp e).mono (.lay hp)) .nil))⟩
  ·cases hq
 stop:=fun i ρ' H' M' e j q=>by
  have hq:(pairs ds es)[i]?=none:=Option.some.inj q
  rw[pairs_at] at hq
  refine⟨xs,ys,nA (e.keep _ _ h1 n1 ne_if).2,nA (e.keep _ _ h2 n2 ne_if).2,?_⟩
  cases e1:ds[i]? with
  |none=>exact .inl (List.getElem?_eq_none_iff.mpr (by rw[c1.len];exact List.getElem?_eq_none_iff.mp e1))
  |some dx=>cases e2:es[i]? with
    |none=>exact .inr (List.getElem?_eq_none_iff.mpr (by rw[c2.len];exact List.getElem?_eq_none_iff.mp e2))
    |some dy=>rw[e1,e2] at hq;cases hq
end
theorem Iz{X:Cx}{E:XK}{elts:List Expr}{kt:Nat}{tp:Pos}{a b:Expr}{fa:ao->DM (List D)}{p pos:Pos}(hg:Gl X "zip")(hm:X.mg "zip"=none)(ha:DA X E [a,b] fa)(hs:notStar a=true:=by rfl)(hs2:notStar b=true:=by rfl) :
  DI X E (.Tuple elts kt tp) (.Call (.Name "zip" p) [a,b] [] pos) (fun δ=>fa δ>>=fun l=>opt (xY l)):=⟨by
 intro pins s σ H R I h
 obtain⟨ρ,δ,M,ev,j,g1⟩:=h
 refine Call_ (ld_blt I hg hm boot_zip (PyProof.Rows.callWith_type1 (thn (ha.h.h pos pins s σ H (fun vs H1=>∃ρ1 M1 ds,Ext ρ H ρ1 H1∧J X.mg ρ1 M1 H1∧Cvs X.mg ρ1 H1 vs ds∧Go X.mg E (ItOk X.mg) R ρ1 H1 (opt (xY ds)) M1) I ⟨ρ,δ,M,ev,j,g1.bind fun ρ1 H1 M1 vs ds e1 j1 c1 g2=>⟨ρ1,M1,ds,e1,j1,c1,g2⟩⟩) fun us s1 h1=>?_) (bF hs) (by rw[bF hs2];rfl)))
 obtain⟨vs,H1,I1,rv,ρ1,M1,ds,e1,j1,c1,g2⟩:=h1
 obtain⟨itn,ei,q⟩:=g2.opt
 unfold xY at ei
 split at ei
 rotate_left
 ·cases ei
 rename_i dx dy
 split at ei
 rotate_left
 ·cases ei
 rename_i b1 l b2 m f1 f2
 cases ei
 obtain⟨v1,v2,rfl,k1,k2⟩:=c1.two
 obtain⟨a1,xs,rfl,n1,h1,cx⟩:=wO (K:=X.K) k1 f1
 obtain⟨a2,ys,rfl,n2,h2,cy⟩:=wO (K:=X.K) k2 f2
 obtain⟨u1,u2,rfl,r1,r2⟩:=vals2 rv
 cases r1
 cases r2
 obtain⟨its1,w1,p1,_⟩:=I1.seqS (nA (K:=X.K) h1)
 obtain⟨its2,w2,p2,_⟩:=I1.seqS (nA (K:=X.K) h2)
 refine Bl p1 p2 fun h' a1' a2' a3 a4 a5 a6 a7=>wpAny_pyIter_zip a1' ?_
 have lt1:@LT.lt Nat _ a1 s1.heap.objs.size:=p1.lt
 have lt2:@LT.lt Nat _ a2 s1.heap.objs.size:=p2.lt
 have D:ZipApart (s1.heap.objs.size+4) (s1.heap.objs.size+2) (s1.heap.objs.size+3) s1.heap.objs.size (s1.heap.objs.size+1) a1 a2:=by
  constructor<;>exact fun (h:@Eq Nat _ _)=>by have:=lt1;have:=lt2;lia
 have I2:Inv X pins σ H1 { s1 with heap:=h' }:=I1.kept (t':=s1.toks) a7
 refine⟨_,_,_,_,H1,rfl,I2,Fj D,⟨a1',a2',⟨_,_,a3⟩,a4.1,a5.1⟩,fun b hb=>?_,q ρ1 H1 _ .refl j1 (Jp n1 n2 h1 h2 cx cy)⟩
 refine I1.fpOk ?_ (I1.hok.fresh ?_)<;>(simp only[List.mem_cons,List.mem_nil_iff,or_false] at hb;rcases hb with rfl | rfl | rfl | rfl | rfl<;>lia)⟩
structure XTab(K:PySem.W.Frag)(mg:Str->Option Value)(ns:List Str)(F:Addr):Prop where
 cls:∀a∈ns,∃C,XCls K mg a C∧XAt K C∧Catches K C F
 kit:∀a∈ns,∀b∈ns,∀C D,mg a=some (.ref C)->mg b=some (.ref D)->PySem.W.kitOne K (.ref C) (.ref D)=some (a==b)
theorem qC{P:Program}{w:World}{K:PySem.W.Frag}{mg:Str->Option Value}{base:Heap}{N:List Str}{qual:Str}{scope:Scope}{f:Addr}{cd:Value}{A:Around}{outer:List Env}{s:Shared}{H:Hp}{E:XK}{ns:List Str}{F:Addr}{x:Str}{np cpos pos:Pos}{e:Expr}{fe:ao->DM D}
  (T:XTab K mg ns F) (hx:x∈ns) (he:DE (bO P w K mg base N qual scope f cd A outer s H E) E e fe)
  (hg:Gl (bO P w K mg base N qual scope f cd A outer s H E) x:=by rfl) (hd:(x==("__debug__":Str))=false:=by decide)
  (hst:starEach [e] (bO P w K mg base N qual scope f cd A outer s H E).env=[(false,eval e (bO P w K mg base N qual scope f cd A outer s H E).env)]:=by rfl) :
  DS (bO P w K mg base N qual scope f cd A outer s H E) E (.Raise (some (.Call (.Name x np) [e] [] cpos)) none pos) (fun δ=>fe δ>>=fun _=>raise x):=by
 obtain⟨C,xc,_,_⟩:=T.cls x hx
 refine⟨PS.mono (L2.Fd xc he.h hg hd hst) fun D σ H h=>?_⟩
 obtain⟨ρ,δ,M,ev,j,g1⟩:=h
 refine⟨ρ,δ,M,ev,j,g1.bind fun ρ1 H1 M1 v d e1 j1 c1 g2=>⟨rfl,?_⟩⟩
 obtain⟨r,er,p⟩:=g2
 cases er
 exact p ρ1 H1 C .refl j1 xc.at_
theorem Ev.forget(h:Ev mg ρ H σ δ):Ev mg ρ H (σ.set i none) (δ.set i none):=by
 refine⟨by rw[List.length_set,List.length_set,h.len],fun j x q=>?_⟩
 by_cases e:j=i
 ·subst e
  have hj:j<(δ.set j none).length:=(List.getElem?_eq_some_iff.mp q).1
  rw[List.length_set] at hj
  rw[List.getElem?_set_self hj] at q
  cases q
 ·rw[List.getElem?_set_ne (fun z=>e z.symm)] at q ⊢
  exact h.val j x q
def Ew(i:Nat):Fl->DM Fl
 |.nx δ=>pure (.nx (δ.set i none))
 |.bk δ=>pure (.bk (δ.set i none))
 |.ct δ=>pure (.ct (δ.set i none))
 |.rt d=>pure (.rt d)
def oY(ns:List Str)(n i:Nat)(fb:ao->DM Fl)(fh:Str->ao->DM Fl)(δ:ao):DM Fl:=fun M=>match fb δ M with
 |some (.exc c,M')=>if ns.contains c then (dY (fh c ((List.replicate n none).set i (some (.exn 0))))>>=Ew i) M' else none
 |r=>r
def Pg(ns:List Str)(c:Str):List D->Mo->Option D
 |[.exn _,.cls k],_=>if ns.contains k then some (.bl (c==k)) else none
 |_,_=>none
theorem KZ(a:α)(f:α->DM β):((Pure.pure a:DM α)>>=f)=f a:=rfl
theorem Nh(a:α):(opt (some a):DM α)=Pure.pure a:=rfl
theorem KY(m:DM α)(f:α->DM β)(g:β->DM γ):(m>>=f)>>=g=m>>=fun a=>f a>>=g:=by
 funext M
 show DM.bind (DM.bind m f) g M=DM.bind m (fun a=>DM.bind (f a) g) M
 unfold DM.bind
 cases m M with
 |none=>rfl
 |some r=>obtain⟨r,M'⟩:=r;cases r<;>rfl
section
variable{X:Cx}{E:XK}{a b c:Expr}{fa fb fc:ao->DM D}{pos:Pos}
def zJ:D->Mo->Option D
 |.int i,_=>if i.natAbs.log2<1920 then some (.str (toString i)) else none
 |_,_=>none
theorem Bq (ha:DE X E a fa):DE X E (.FormattedValue a (-1) none pos) (fun δ=>fa δ >>= fun x=>rd (zJ x)):=⟨PE.mono (J3 ha.h) fun σ H Q h=>by
 obtain⟨ρ,δ,M,ev,j,g1⟩:=h
 refine⟨ρ,δ,M,ev,j,g1.bind fun ρ1 H1 M1 x dx e1 j1 c1 g2=>?_⟩
 obtain⟨d,e,q⟩:=g2.rd
 unfold zJ at e
 split at e
 ·split at e
  ·cases e;cases c1
   exact⟨_,rfl,‹_›,q ρ1 H1 _ .refl j1 (.str _)⟩
  ·cases e
 ·cases e⟩
def strOf:D->Option Str
 |.str x=>some x
 |_=>none
theorem Go.strOf(g:Go mg E rel Q ρ H (L3.opt (L3.strOf d)>>=k) M):∃x,d=.str x∧Go mg E rel Q ρ H (k x) M:=by
 cases d with
 |str x=>exact⟨x,rfl,g⟩
 |_=>obtain⟨r,e,_⟩:=g;cases e
theorem Go.ite[Decidable p](g:Go mg E rel Q ρ H (if p then m else stuck) M):p∧Go mg E rel Q ρ H m M:=by
 by_cases h:p
 ·rw[if_pos h] at g;exact⟨h,g⟩
 ·rw[if_neg h] at g;obtain⟨r,e,_⟩:=g;cases e
def boolsOf:List D->Option (List Bool)
 |[]=>some []
 |.bl b::l=>(boolsOf l).map (b::·)
 |_=>none
theorem qp:∀ {xs:List V}{l:List D}{bs:List Bool},Cvs mg ρ H xs l->boolsOf l=some bs->xs=bs.map V.bl
 |_,_,_,.nil,e=>by cases e;rfl
 | _,_,_,.cons (d:=d) c cs,e=>by
   cases d with
   |bl i=>
     obtain⟨ms,h1,rfl⟩:=Option.map_eq_some_iff.mp e
     cases c
     rw[qp cs h1];rfl
   |_=>cases e
def Ip:D->List D->DM D
 |x,[.bl b]=>rd fun M=>(bh x M).bind fun l=>(boolsOf l).map fun bs=>.int (bs.countP (·== b):Nat)
 |_,_=>stuck
theorem Ce:Fw X E "list.count" Ip:=by
 intro pins s σ H x xs v us Q I rx rs q
 obtain⟨ρ,M,d,ds,j,cx,cs,g⟩:=q
 cases cs with
 |nil=>obtain⟨r,e,_⟩:=g;cases e
 | cons c cs=>cases cs with
   |cons _ _=>obtain⟨r,e,_⟩:=g;cases c<;>cases e
   | nil=>cases c with
     |bl b=>
       obtain⟨d',e,p⟩:=Go.rd g
       obtain⟨l,h1,e1⟩:=Option.bind_eq_some_iff.mp e
       obtain⟨bs,h2,rfl⟩:=Option.map_eq_some_iff.mp e1
       obtain⟨a,ys,rfl,ha,cl⟩:=cP j cx h1
       have:=qp cl h2
       subst this
       exact Ep (X:=X) pins s σ H _ _ v us Q I rx rs ⟨a,bs,b,rfl,rfl,ha,p ρ H _ .refl j (.int _)⟩
     |_=>obtain⟨r,e,_⟩:=g;cases e
def findB(b:Bool):List Bool->Option Nat
 |[]=>none
 |c::l=>if c==b then some 0 else (findB b l).map (·+ 1)
theorem sG {b:Bool}:∀ {l:List Bool}{n:Nat},findB b l=some n->l[n]?=some b∧∀ m c,m<n->l[m]?=some c->(c == b)=false
 |[],n,h=>by cases h
 | c::l,n,h=>by
   unfold findB at h
   split at h
   ·rename_i hc
    cases h
    exact⟨by rw[beq_iff_eq.mp hc];rfl,fun m c hm=>absurd hm (Nat.not_lt_zero _)⟩
   ·rename_i hc
    obtain⟨k,h1,rfl⟩:=Option.map_eq_some_iff.mp h
    obtain⟨a1,a2⟩:=sG h1
    refine⟨by simpa using a1,fun m c' hm e=>?_⟩
    cases m with
    |zero=>simp at e;subst e;simpa using hc
    |succ m=>exact a2 m c' (by lia) (by simpa using e)
def Jh:D->List D->DM D
 |x,[.bl b]=>rd fun M=>(bh x M).bind fun l=>(boolsOf l).bind fun bs=>(findB b bs).bind fun n=>if n<1000 then some (.int (n:Nat)) else none
 |_,_=>stuck
theorem Cg:Fw X E "list.index" Jh:=by
 intro pins s σ H x xs v us Q I rx rs q
 obtain⟨ρ,M,d,ds,j,cx,cs,g⟩:=q
 cases cs with
 |nil=>obtain⟨r,e,_⟩:=g;cases e
 | cons c cs=>cases cs with
   |cons _ _=>obtain⟨r,e,_⟩:=g;cases c<;>cases e
   | nil=>cases c with
     | bl b=>
       obtain⟨d',e,p⟩:=Go.rd g
       obtain⟨l,h1,e1⟩:=Option.bind_eq_some_iff.mp e
       obtain⟨bs,h2,e2⟩:=Option.bind_eq_some_iff.mp e1
       obtain⟨n,h3,e3⟩:=Option.bind_eq_some_iff.mp e2
       split at e3
       ·rename_i hn
        cases e3
        obtain⟨a,ys,rfl,ha,cl⟩:=cP j cx h1
        have:=qp cl h2
        subst this
        obtain⟨f1,f2⟩:=sG h3
        exact Er (X:=X) pins s σ H _ _ v us Q I rx rs ⟨a,bs,b,n,rfl,rfl,ha,f1,f2,hn,p ρ H _ .refl j (.int _)⟩
       ·cases e3
     |_=>obtain⟨r,e,_⟩:=g;cases e
end
theorem iD:∀ {names:List (Str×NameKind)}{m:Nat}{y:Str}{c:Addr},(y,c)∈cellsFrom m names []->(y,NameKind.cell)∈names
 |[],_,_,_,h=>nomatch h
 | (n,k)::r,m,y,c,h=>by
   unfold cellsFrom at h
   split at h
   ·rename_i hk
    rw[cB] at h
    rcases List.mem_append.mp h with z | z
    ·exact .tail _ (iD z)
    ·cases List.mem_singleton.mp z
     have hk':k=.cell:=by cases k<;>first | rfl | cases hk
     rw[hk'];exact .head _
   ·exact .tail _ (iD h)
def isC:NameKind->Bool
 |.cell=>true
 |_=>false
theorem Jj(h:isC k=true):k=.cell:=by cases k<;>first | rfl | cases h
theorem Ha(h:(names.all fun p=>!isC p.2 || (match names.lookup p.1 with | some k=>isC k | none=>false))=true):∀(m:Nat) y c,(cellsFrom m names []).lookup y=some c->names.lookup y=some .cell:=fun m y c e=>by
 have hm:=iD (PySem.mem_of_lookup e)
 have q:=List.all_eq_true.mp h _ hm
 simp only[isC,Bool.not_true,Bool.false_or] at q
 split at q
 ·rename_i k hk
  rw[hk,Jj q]
 ·cases q
theorem Hb{cl:List (Str×Addr)}{names:List (Str×NameKind)}(h:wu (fun p=>(match names.lookup p.1 with | some k=>isC k | none=>false)=false) cl):∀y c,cl.lookup y=some c->names.lookup y≠some .cell:=fun y c e z=>by
 have:=lO h (y,c) (L2.mem_of_lookup e)
 simp only[z,isC] at this
 cases this
end L3
namespace L3
open PySem PySem.Spec L2
@[simp] theorem az(a:α)(f:α->DM β):((Pure.pure a:DM α)>>=f)=f a:=id rfl
@[simp] theorem aq(m:DM α)(f:α->DM β)(g:β->DM γ):(m>>=f)>>=g=m>>=fun a=>f a>>=g:=KY m f g
@[simp] theorem Ke(a:α):(opt (some a):DM α)=Pure.pure a:=id rfl
@[simp] theorem O7(a:α):dY (Pure.pure a:DM α)=Pure.pure a:=id rfl
@[simp] theorem NK(c:Str)(f:α->DM β):((raise c:DM α)>>=f)=raise c:=id rfl
theorem bJ{α:Type}{f:Mo->Option α}{a:α}(h:∀M,f M=some a):(rd f:DM α)=Pure.pure a:=by
 funext M
 show (f M).map _=_
 rw[h M];rfl
@[simp] theorem O8(f g:ao->DM Fl)(δ:ao):kh f g δ=f δ>>=fun r=>match r with
 |.nx δ'=>g δ'
 |r=>Pure.pure r:=id rfl
@[simp] theorem aF(i:Nat)(δ:ao):qG i δ=opt ((δ[i]?).join):=id rfl
@[simp] theorem aX(b:Bool):jw (.bl b)=Pure.pure b:=id rfl
@[simp] theorem Oj(p n:Nat)(fb:ao->DM Fl)(ds:List D):aK p n fb ds=if ds.length=p then fb (aU n ds)>>=fun r=>match r with
 |.nx _=>Pure.pure .non
 |.rt d=>Pure.pure d
 |_=>stuck else stuck:=id rfl
@[simp] theorem NP(n:Nat)(ds:List D):aU n ds=ds.map some++List.replicate (n-ds.length) none:=id rfl
@[simp] theorem zW(i:Nat)(d:D)(δ:ao):gN i d δ=Pure.pure (δ.set i (some d)):=id rfl
@[simp] theorem Pj(n:Nat)(fs:List D->ao->DM ao)(l:List D)(δ:ao):gT n fs (.tup l) δ=if l.length=n then fs l δ else stuck:=id rfl
@[simp] theorem O2(f:D->ao->DM ao)(fs:List D->ao->DM ao)(d:D)(l:List D)(δ:ao):b7 f fs (d::l) δ=f d δ>>=fun δ'=>fs l δ':=id rfl
@[simp] theorem O3(δ:ao):gf [] δ=Pure.pure δ:=id rfl
@[simp] theorem Gj(i j:Nat)(fa:ao->DM (List D))(δ:ao):JZ i j fa δ=fa δ>>=fun l=>match l with
 |[v,w]=>Pure.pure (.nx ((δ.set i (some v)).set j (some w)))
 |_=>stuck:=id rfl
@[simp] theorem Ls(i j:Int):(rd (cL (.int i) (.int j)):DM D)=Pure.pure (.int (i+j)):=id rfl
@[simp] theorem Mh(i j:Int):(rd (oX (.int i) (.int j)):DM D)=Pure.pure (.int (i-j)):=id rfl
@[simp] theorem Nu(i j:Int):(rd (sU (.int i) (.int j)):DM D)=Pure.pure (.bl (decide (i<j))):=id rfl
@[simp] theorem Nt(i j:Int):(rd (vd (.int i) (.int j)):DM D)=Pure.pure (.bl (decide (i≤j))):=id rfl
@[simp] theorem Nr(i j:Int):(rd (u9 (.int i) (.int j)):DM D)=Pure.pure (.bl (decide (j<i))):=id rfl
@[simp] theorem Nq(i j:Int):(rd (BK (.int i) (.int j)):DM D)=Pure.pure (.bl (decide (j≤i))):=id rfl
@[simp] theorem O6(i:Int):(rd (qO (.int i)):DM D)=Pure.pure (.int (-i)):=id rfl
@[simp] theorem Oz(i:Int):(rd (MJ [.int i]):DM D)=Pure.pure (.int (if i<0 then -i else i)):=id rfl
@[simp] theorem Kc(i j:Int):(rd (vD [.int i,.int j]):DM D)=Pure.pure (.int (if j > i then j else i)):=id rfl
@[simp] theorem Oq(i j:Int):(rd (Ld [.int i,.int j]):DM D)=Pure.pure (.int (if j<i then j else i)):=id rfl
theorem LK{i j:Int}(h:0<j):(rd (n8 (.int i) (.int j)):DM D)=Pure.pure (.int (i%j)):=bJ fun M=>by simp[cM,h]
theorem LQ{i j:Int}(h:gQ i j=true):(rd (xf (.int i) (.int j)):DM D)=Pure.pure (.int (i*j)):=bJ fun M=>by simp[cM,h]
theorem Ka{i j:Int}(h:ph i j=true):(rd (sE (.int i) (.int j)):DM D)=Pure.pure (.int (i / j)):=bJ fun M=>by simp[cM,h]
theorem Ma{i j:Int}(h:Gd i j=true):(rd (EY (.int i) (.int j)):DM D)=Pure.pure (.int (i^j.toNat)):=bJ fun M=>by simp[cM,h]
theorem bits_le(h:i.natAbs<2^n):Builtin.Int.intBits i≤n:=by
 unfold Builtin.Int.intBits
 split
 ·exact Nat.zero_le _
 ·rename_i h0
  have:i.natAbs≠0:=by intro z;apply h0;simp;lia
  exact (Nat.log2_lt this).mpr h
theorem Nz(h:i.natAbs<2^64):gQ i j=true:=by
 unfold gQ
 have:¬ (Builtin.Int.intBits i > shortFactorBits):=by have:=bits_le h;unfold shortFactorBits;lia
 simp[this]
theorem G8(h:j.natAbs<2^64):gQ i j=true:=by
 unfold gQ
 have:¬ (Builtin.Int.intBits j > shortFactorBits):=by have:=bits_le h;unfold shortFactorBits;lia
 simp[this]
theorem GC(h0:0<j)(h:j.natAbs<2^1000):ph i j=true:=by
 unfold ph
 have a:Builtin.divisionGoesByPylong i j=false:=by
  unfold Builtin.divisionGoesByPylong
  have hj:j.natAbs≠0:=by lia
  have hl:j.natAbs.log2<1000:=(Nat.log2_lt hj).mpr h
  have h0':(j==0)=false:=by simp;lia
  simp only[h0']
  have:¬ (j.natAbs.log2 / 30+1 > 300):=by lia
  simp[this]
 simp[a,h0]
theorem Kd{a b:Nat}(h0:0<b):(rd (n8 (.int (a:Int)) (.int (b:Int))):DM D)=Pure.pure (.int ((a%b:Nat):Int)):=by
 rw[LK (by lia),Int.natCast_emod]
def nD(n:Nat):D:=.int (n:Int)
def nT(l:List Nat):D:=.tup (l.map nD)
theorem kI{α:Type}{l:List α}{i:Nat}{a:α}(h:l[i]?=some a):atI l (i:Int)=some a:=by
 have hi:=(List.getElem?_eq_some_iff.mp h).1
 unfold atI ixN
 rw[if_pos (by lia),if_pos (by lia)]
 simpa using h
theorem Gh{l:List D}{i:Nat}{a:D}(h:l[i]?=some a):(rd (bV (.tup l) (.int (i:Int))):DM D)=Pure.pure a:=bJ fun M=>kI h
theorem Gg{l:List D}{i:Nat}{a:D}(h:l[i]?=some a):(rd (bV (.lst l) (.int (i:Int))):DM D)=Pure.pure a:=bJ fun M=>kI h
theorem Lz{l:List Nat}{i:Nat}{a:Nat}(h:l[i]?=some a):(rd (bV (nT l) (.int (i:Int))):DM D)=Pure.pure (nD a):=Gh (by simp[h])
@[simp] theorem Oo(l:List D):(rd (cW [.tup l]):DM D)=Pure.pure (.int (l.length:Int)):=id rfl
@[simp] theorem Ol(l:List D):(rd (cW [.lst l]):DM D)=Pure.pure (.int (l.length:Int)):=id rfl
@[simp] theorem Om(l:List Int):(rd (cW [.scr l]):DM D)=Pure.pure (.int (l.length:Int)):=id rfl
@[simp] theorem Ou(l:List D):(rd (lK [.lst l]):DM D)=Pure.pure (.tup l):=id rfl
@[simp] theorem Ov(l:List D):(rd (lK [.tup l]):DM D)=Pure.pure (.tup l):=id rfl
theorem n6:∀l:List Nat,intsOf (l.map nD)=some (l.map fun n:Nat=>(n:Int))
 |[]=>rfl
 |i::l=>by simp[intsOf,nD];exact n6 l
theorem q9:∀l:List Nat,(l.map fun n:Nat=>(n:Int)).sum=((l.sum:Nat):Int)
 |[]=>rfl
 |i::l=>by simp[q9 l]
@[simp] theorem Kl(l:List Nat):(rd (xT [nT l]):DM D)=Pure.pure (nD l.sum):=bJ fun M=>by
 show (intsOf (l.map nD)).map _=_
 rw[n6];simp[nD,q9]
@[simp] theorem Kh(l:List Nat):(rd (xT [.lst (l.map nD)]):DM D)=Pure.pure (nD l.sum):=bJ fun M=>by
 show (intsOf (l.map nD)).map _=_
 rw[n6];simp[nD,q9]
@[simp] theorem Kf{n:Nat}(h:n<2^62):qR [.int (n:Int)]=some (.fix ((List.range n).map nD)):=by
 have:Aa (n:Int)=true:=by unfold Aa;exact decide_eq_true ⟨by lia,by lia⟩
 simp[qR,this,qT,nD]
@[simp] theorem OD(l:List D):Ba (.tup l)=some (.fix l):=id rfl
theorem dg(h:l.length≤1000000):eQ l=Pure.pure (.tup l):=by
 have:dB l=true:=by unfold dB;exact decide_eq_true (by show l.length≤2^24;lia)
 simp[eQ,this]
theorem je(h:l.length≤1000000):m6 l=Pure.pure (.lst l):=by
 have:dB l=true:=by unfold dB;exact decide_eq_true (by show l.length≤2^24;lia)
 simp[m6,this]
@[simp] theorem yS(fg:D->ao->DM ao)(ft:ao->DM Bool)(fb:ao->List D->DM (ao×List D))(ds:List D)(δ:ao)(l:List D):dC fg ft fb (.fix ds) δ l=bN fg ft fb ds δ l:=id rfl
theorem wV (S:ao->Prop) (en:D->ao) (p:D->Bool) (e:D->D):∀ (ds:List D) (δ:ao) (l:List D),S δ->l.length + ds.length≤1000000->
  (∀d∈ds,∀δ,S δ->fg d δ=Pure.pure (en d)∧S (en d))->(∀d∈ds,ft (en d)=Pure.pure (p d))->(∀d∈ds,p d=true->fe (en d)=Pure.pure (e d))->∃δ',bN fg ft (cT fe) ds δ l=Pure.pure (δ',l++(ds.filter p).map e)
 |[],δ,l,_,_,_,_,_=>⟨δ,by simp[bN]⟩
 | d::ds,δ,l,s,hl,h0,h1,h2=>by
   have a:=h0 d (List.mem_cons_self ..) δ s
   have b:=h1 d (List.mem_cons_self ..)
   have hl':l.length+(ds.length+1)≤1000000:=by simpa using hl
   have lt:l.length<sizeLine:=by show l.length<2^24;lia
   have ih:=fun l' hl'=>wV S en p e ds (en d) l' a.2 hl' (fun x hx=>h0 x (List.mem_cons_of_mem _ hx)) (fun x hx=>h1 x (List.mem_cons_of_mem _ hx)) (fun x hx=>h2 x (List.mem_cons_of_mem _ hx))
   by_cases hp:p d=true
   ·have c:=h2 d (List.mem_cons_self ..) hp
    obtain⟨δ',q⟩:=ih (l++[e d]) (by simp;lia)
    refine⟨δ',?_⟩
    simp[bN,a.1,b,hp,cT,c,lt,q]
   ·obtain⟨δ',q⟩:=ih l (by lia)
    refine⟨δ',?_⟩
    simp[bN,a.1,b,hp,q]
@[simp] theorem xN(l:List D):Out.run .val l=Pure.pure (.lst l):=id rfl
theorem K4{ft:ao->DM Bool}{fe:ao->DM D}{x:Option D}{rest:ao}{ds:List D}(p:D->Bool)(e:D->D)(hl:ds.length≤1000000)(h1:∀d∈ds,ft (some d::rest)=Pure.pure (p d))(h2:∀d∈ds,p d=true->fe (some d::rest)=Pure.pure (e d)){β:Type}{k:ao×List D->DM β}{k':List D->DM β}(hk:∀q,k q=k' q.2) :
  (dY (bN (gN 0) ft (cT fe) ds (x::rest) [])>>=k)=k' ((ds.filter p).map e):=by
 obtain⟨δ',q⟩:=wV (fg:=gN 0) (ft:=ft) (fe:=fe) (fun δ=>∃x,δ=x::rest) (fun d=>some d::rest) p e ds (x::rest) [] ⟨x,rfl⟩ (by simpa using hl) (fun d _ δ ⟨x,h⟩=>⟨by subst h;rfl,_,rfl⟩) h1 h2
 rw[q];simp[hk]
@[simp] theorem NB(m:DM α):(m>>=fun a=>(Pure.pure a:DM α))=m:=by
 funext M
 show DM.bind m _ M=m M
 unfold DM.bind
 cases m M with
 |none=>rfl
 |some r=>obtain⟨r,M'⟩:=r;cases r<;>rfl
def lZ:Option D->List D->Option D
 |x,[]=>x
 |_,d::ds=>lZ (some d) ds
def pC:Option D->Option D->List D->List D->ao
 |x,y,a::as,b::bs=>pC (some a) (some b) as bs
 |x,y,_,_=>[x,y]
theorem nZ:∀ (as bs:List Int),PyData.eqvAll (as.map .int) (bs.map .int)=decide (as=bs)
 |[],[]=>by simp[PyData.eqvAll]
 |[],b::bs=>by simp[PyData.eqvAll]
 |a::as,[]=>by simp[PyData.eqvAll]
 |a::as,b::bs=>by
   rw[List.map_cons,List.map_cons]
   simp only[PyData.eqvAll,PyData.eqv,nZ as bs]
   by_cases h:a=b<;>by_cases h2:as=bs<;>simp[h,h2]
theorem mJ:∀l:List Int,cV (l.map D.int)=some (l.map PyData.int)
 |[]=>rfl
 |i::l=>by simp[cV,toPy,mJ l]
theorem lay_ints:∀l:List Int,PyData.canLayAll0 (l.map PyData.int)=true
 |[]=>rfl
 |i::l=>by simp[PyData.canLayAll0,PyData.canLay0,lay_ints l]
theorem lW:∀ l:List Int,PyData.depthAll (l.map PyData.int)≤1
 |[]=>by simp[PyData.depthAll]
 |i::l=>by
   have:=lW l
   simp only[List.map_cons,PyData.depthAll,PyData.depth]
   lia
@[simp] theorem Lx(i j:Int):(rd (cg (.int i) (.int j)):DM D)=Pure.pure (.bl (decide (i=j))):=bJ fun M=>by
 simp[cg,eqB,eqP,toPy,PyData.canLay0,PyData.depth,PyData.eqv]
 rw[Bool.eq_iff_iff];simp
@[simp] theorem LR(i j:Int):(rd (iu (.int i) (.int j)):DM D)=Pure.pure (.bl (!decide (i=j))):=bJ fun M=>by
 simp[iu,eqB,eqP,toPy,PyData.canLay0,PyData.depth,PyData.eqv]
 rw[Bool.eq_iff_iff];simp
@[simp] theorem O1(i j:Str):(rd (cg (.str i) (.str j)):DM D)=Pure.pure (.bl (decide (i=j))):=id rfl
@[simp] theorem O5(i j:Str):(rd (iu (.str i) (.str j)):DM D)=Pure.pure (.bl (!decide (i=j))):=id rfl
theorem wG(a b:List Int):eqB (.tup (a.map D.int)) (.tup (b.map D.int))=some (decide (a=b)):=by
 have:=lW a
 have h:∀n,n≤1->1+n≤60:=fun n h=>by lia
 simp only[eqB,eqP,toPy,mJ,Option.map_some,PyData.canLay0,lay_ints,PyData.depth,PyData.eqv,nZ]
 simp
 lia
theorem kZ(l:List Nat):nT l=.tup ((l.map fun n:Nat=>(n:Int)).map D.int):=by simp[nT,nD,Function.comp_def]
theorem qu{a b:List Nat}:(a.map fun n:Nat=>(n:Int))=(b.map fun n:Nat=>(n:Int)) ↔ a=b:=List.map_inj_right fun x y (h:(x:Int)=(y:Int))=>by lia
@[simp] theorem OJ(a b:List Nat):(rd (cg (nT a) (nT b)):DM D)=Pure.pure (.bl (decide (a=b))):=bJ fun M=>by
 rw[kZ,kZ,cg,wG];simp[qu]
@[simp] theorem O4(a b:List Nat):(rd (iu (nT a) (nT b)):DM D)=Pure.pure (.bl (!decide (a=b))):=bJ fun M=>by
 rw[kZ,kZ,iu,wG];simp[qu]
theorem zb:∀l:List Bool,gC (l.map D.bl)=some l
 |[]=>rfl
 |b::l=>by simp[gC,Ff,zb l]
@[simp] theorem Cw(l:List Bool):(rd (ud [.lst (l.map D.bl)]):DM D)=Pure.pure (.bl (l.all id)):=bJ fun M=>by
 simp[ud,bh,zb]
theorem Dh:∀ l:List Nat,gC (l.map nD)=some (l.map fun n=>n != 0)
 |[]=>rfl
 |b::l=>by
   simp only[List.map_cons,gC,Dh l,nD,Ff]
   congr 2
   rw[Bool.eq_iff_iff];simp
@[simp] theorem Oi(l:List Nat):(rd (zp [nT l]):DM D)=Pure.pure (.bl (l.any (·!= 0))):=bJ fun M=>by
 simp[zp,nT,Dh,List.any_map]
theorem yz:∀ l:List Nat,l.any (·!= 0)=decide (0<l.sum)
 |[]=>rfl
 |a::l=>by
   rw[List.any_cons,yz l,Bool.eq_iff_iff]
   simp only[Bool.or_eq_true,bne_iff_ne,decide_eq_true_eq,ne_eq]
   rw[List.sum_cons]
   lia
theorem tO(h:∀M,tyOf d M=some t)(hc:tys.contains c=true):(rd (gh [d,.ty c]):DM D)=Pure.pure (.bl (Af t c)):=bJ fun M=>by
 simp only[gh,h M,Option.bind_some,hc,if_true]
@[simp] theorem jt(b:Bool):(rd (xU (.bl b)):DM Bool)=Pure.pure b:=id rfl
theorem CW {l:List Int} (h:∀ i∈l,i.natAbs<2 ^ 1000):PyData.showableAll (l.map PyData.int)=true:=by
 induction l with
 |nil=>rfl
 | cons i l ih=>
   have h0:=h i (by simp)
   have:i.natAbs.log2<1920:=by
    rcases Nat.eq_zero_or_pos i.natAbs with z | z
    ·rw[z];decide
    ·exact Nat.lt_of_lt_of_le ((Nat.log2_lt (by lia)).mpr h0) (by decide)
   simp[PyData.showableAll,PyData.showable,this,ih fun i hi=>h i (by simp[hi])]
theorem wA:∀l:List Int,f9 (l.map PyData.int)=1923*l.length
 |[]=>rfl
 |i::l=>by simp only[List.map_cons,f9,dG,wA l,List.length_cons];lia
@[simp] theorem Ow(l m:List D):xY [.tup l,.tup m]=some (.fix (pairs l m)):=id rfl
def Rn{α:Type}(m:DM α)(M:Mo)(Q:α->Mo->Prop):Prop:=∃a M',m M=some (.ok a,M')∧Q a M'
theorem Rn.bind(h:Rn m M Q1)(k:∀a M',Q1 a M'->Rn (f a) M' Q):Rn (m>>=f) M Q:=by
 obtain⟨a,M',e,q⟩:=h
 obtain⟨b,M2,e2,q2⟩:=k a M' q
 refine⟨b,M2,?_,q2⟩
 show DM.bind m f M=_
 unfold DM.bind
 rw[e];exact e2
theorem Rn.pure(q:Q a M):Rn (Pure.pure a) M Q:=⟨a,M,rfl,q⟩
theorem Rn.mono{α:Type}{m:DM α}{Q R:α->Mo->Prop}(h:Rn m M Q)(k:∀a M',Q a M'->R a M'):Rn m M R:=by
 obtain⟨a,M',e,q⟩:=h
 exact⟨a,M',e,k a M' q⟩
theorem Rn.rd(h:f M=some a)(q:Q a M):Rn (L3.rd f) M Q:=⟨a,M,by unfold L3.rd;rw[h];rfl,q⟩
theorem Rn.bindRd(a:α)(h:f M=some a)(q:Rn (k a) M Q):Rn (L3.rd f>>=k) M Q:=Rn.bind (Rn.rd h (Q:=fun b M'=>b=a∧M'=M) ⟨rfl,rfl⟩) (fun b M' ⟨e1,e2⟩=>by rw[e1,e2];exact q)
theorem Rn.call(hp:ds.length=p)(h:Rn (fb (aU n ds)) M fun r M'=>∃d,r=.rt d∧Q d M'):Rn (aK p n fb ds) M Q:=by
 unfold aK
 rw[if_pos hp]
 refine Rn.bind h fun r M' ⟨d,e,q⟩=>?_
 subst e
 exact Rn.pure q
structure Sb(p:Nat)(M M':Mo):Prop where
 le:M.length≤M'.length
 keep:∀q,q≠p->q<M.length->M'[q]?=M[q]?
theorem Sb.refl:Sb p M M:=⟨Nat.le_refl _,fun _ _ _=>rfl⟩
theorem Sb.trans(h:Sb p M M1)(k:Sb p M1 M2):Sb p M M2:=⟨Nat.le_trans h.le k.le,fun q hq hl=>(k.keep q hq (Nat.lt_of_lt_of_le hl h.le)).trans (h.keep q hq hl)⟩
theorem Sb.set:Sb p M (M.set p o):=⟨by simp,fun q hq hl=>List.getElem?_set_ne (fun z=>hq z.symm)⟩
theorem Sb.push:Sb p M (M++[o]):=⟨by simp,fun q hq hl=>List.getElem?_append_left hl⟩
theorem Sb.at(h:Sb p M M')(hq:q≠p)(e:M[q]?=some o):M'[q]?=some o:=(h.keep q hq (List.getElem?_eq_some_iff.mp e).1).trans e
theorem Sb.new(h:M'.length=M.length∨M.length≤M'.length)(hq:M.length≤q)(k:Sb q M' M2)(h1:Sb p M M'):Sb p M M2:=⟨Nat.le_trans h1.le k.le,fun r hr hl=>(k.keep r (by lia) (Nat.lt_of_lt_of_le hl h1.le)).trans (h1.keep r hr hl)⟩
theorem G7(h:l.length≤1000000):dD l M=some (.ok (.ref M.length),M++[.lst l]):=by
 have:dB l=true:=by unfold dB;exact decide_eq_true (by show l.length≤2^24;lia)
 unfold dD
 rw[if_pos this]
theorem Rn.dD(h:l.length≤1000000)(q:Rn (k (.ref M.length)) (M++[.lst l]) Q):Rn (L3.dD l>>=k) M Q:=Rn.bind ⟨_,_,G7 h,(⟨rfl,rfl⟩:D.ref M.length=.ref M.length∧M++[.lst l]=M++[.lst l])⟩ (Q1:=fun a M'=>a=.ref M.length∧M'=M++[.lst l]) (fun a M' ⟨e1,e2⟩=>by rw[e1,e2];exact q)
theorem sO{n:Nat}{l:List D}{i:Nat}(h:M[n]?=some (.lst l))(hi:l[i]?=some a):bV (.ref n) (.int (i:Int)) M=some a:=by
 show (bh (.ref n) M).bind _=_
 simp only[bh,h,Option.bind_some]
 exact kI hi
theorem Jq(h:i<n):ixN n (i:Int)=some i:=by
 unfold ixN
 rw[if_pos (by lia),if_pos (by lia)];simp
theorem gP{n:Nat}{l:List D}{i:Nat}(h:M[n]?=some (.lst l))(hi:i<l.length):Ac (.ref n) (.int (i:Int)) v M=some (.ok (),M.set n (.lst (l.set i v))):=by
 delta Ac
 dsimp only
 rw[h]
 dsimp only
 rw[Jq hi]
theorem yC(h:M[n]?=some (.lst l))(hl:l.length<1000000):Dt (.ref n) [v] M=some (.ok .non,M.set n (.lst (l++[v]))):=by
 have:l.length<sizeLine:=by show l.length<2^24;lia
 delta Dt
 dsimp only
 rw[h]
 dsimp only
 rw[if_pos this]
theorem Rn.run(h:m M=some (.ok a,M'))(q:Rn (k a) M' Q):Rn (m>>=k) M Q:=Rn.bind (Q1:=fun b M2=>b=a∧M2=M') ⟨a,M',h,rfl,rfl⟩ (fun b M2 ⟨e1,e2⟩=>by rw[e1,e2];exact q)
theorem gJ (I:Nat->ao->Mo->Prop):∀ (ds:List D) (i:Nat) (δ:ao) (M:Mo),I i δ M->(∀ j d δ M,ds[j]?=some d->I (i + j) δ M->Rn (tg d δ >>= fb) M fun r M'=>∃ δ',r=.nx δ'∧I (i + j + 1) δ' M')->Rn (forL tg fb ds δ) M fun r M'=>∃ δ',r=.nx δ'∧I (i + ds.length) δ' M'
 |[],i,δ,M,h,_=>Rn.pure ⟨δ,rfl,h⟩
 | d::ds,i,δ,M,h,st=>by
   have s:=st 0 d δ M rfl h
   have e:forL tg fb (d::ds) δ=(tg d δ>>=fb)>>=fun r=>match r with
    |.nx δ2=>forL tg fb ds δ2
    |.ct δ2=>forL tg fb ds δ2
    |.bk δ2=>Pure.pure (.nx δ2)
    |.rt d=>Pure.pure (.rt d):=by rw[aq];rfl
   rw[e]
   refine Rn.bind s fun r M' ⟨δ',e,h'⟩=>?_
   subst e
   have ih:=gJ I ds (i+1) δ' M' h' (fun j d δ M hj hI=>by
    have:=st (j+1) d δ M (by simpa using hj) (by rw[show i+(j+1)=i+1+j by lia];exact hI)
    rw[show i+1+j+1=i+(j+1)+1 by lia];exact this)
   rw[show i+(d::ds).length=i+1+ds.length by simp;lia]
   exact ih
section
variable{X:Cx}{E:XK}
theorem BL:PGet X (fun x y H Q=>∃p xs i v,x=.ref p∧y=.int i∧0≤i∧SqL X.K H p xs∧atI xs i=some v∧Q v H):=by
 intro pins s σ H x y ov iv Q I rx ry h
 obtain⟨p,xs,i,z,rfl,rfl,h0,hq,he,q⟩:=h
 cases rx
 obtain⟨t,rfl⟩:=ry
 obtain⟨its,r,pl,hz⟩:=I.list hq
 obtain⟨j,h1,h2,h3,h4,h5⟩:=atI_get he
 obtain⟨w,ew,rw'⟩:=r.get h2
 have hl:=r.length
 have hn:=line63
 have fin:EP X pins σ Q w s:=⟨z,H,I,rw',q⟩
 have hj:i.toNat=j:=by
  rw[seqIndex_of h0 h5] at h1
  exact Option.some.inj h1
 exact wpAny_getItem_list pl.isList h0 (by lia) (by rw[hj];simpa using ew) fin
def FJ:D->D->Mo->Option D
 |x,.int i,M=>if 0≤i then (bh x M).bind fun l=>atI l i else none
 |_,_,_=>none
theorem K8:PGet X (rD X.mg E (fun x y=>rd (FJ x y))):=by
 intro pins s σ H x y ov iv Q I rx ry h
 obtain⟨ρ,M,dx,dy,j,cx,cy,go⟩:=h
 obtain⟨d,e,p⟩:=go.rd
 unfold FJ at e
 split at e
 ·cases cy
  split at e
  ·rename_i h0
   obtain⟨l,h1,e1⟩:=Option.bind_eq_some_iff.mp e
   obtain⟨a,xs,rfl,ha,c⟩:=cP j cx h1
   obtain⟨w,e2,cw⟩:=c.at e1
   exact BL (X:=X) pins s σ H _ _ ov iv Q I rx ry ⟨_,_,_,_,rfl,rfl,h0,SqL.of ha,e2,p ρ H _ .refl j cw⟩
  ·cases e
 ·cases e
theorem ug(ho:DE X E o fo)(hi:DE X E i fi)(hop:bW X E (inplaceOp op) gop)(he:DE X E e fe)
  (ha:∀ov iv new,augStore i ov iv new=(do holding [new,ov,iv] (setItem ov iv new);release [new,ov,iv] [];pure .next):=by intros;rfl) :
  DS X E (.AugAssign (.Subscript o i tpos) op e pos) (fun δ=>fo δ>>=fun a=>fi δ>>=fun k=>rd (FJ a k)>>=fun x=>fe δ>>=fun y=>gop x y>>=fun z=>Ac a k z>>=fun _=>pure (.nx δ)):=
 ⟨PS.mono (ps_augS (tip:=rD X.mg E gop) ho.h hi.h (K8 (E:=E)) he.h hop (tX (E:=E)) ha) fun D σ H h=>by
  obtain⟨ρ,δ,M,ev,j,g1⟩:=h
  refine⟨ρ,δ,M,ev,j,g1.bind fun ρ1 H1 M1 a da e1 j1 c1 g2=>⟨ρ1,δ,M1,ev.mono e1,j1,g2.bind fun ρ2 H2 M2 k dk e2 j2 c2 g3=>⟨ρ2,M2,da,dk,j2,c1.mono e2,c2,g3.bind fun ρ3 H3 M3 x dx e3 j3 c3 g4=>?_⟩⟩⟩
  have ev3:=((ev.mono e1).mono e2).mono e3
  refine⟨ρ3,δ,M3,ev3,j3,g4.bind fun ρ4 H4 M4 y dy e4 j4 c4 g5=>⟨ρ4,M4,dx,dy,j4,c3.mono e4,c4,g5.bind fun ρ5 H5 M5 z dz e5 j5 c5 g6=>?_⟩⟩
  refine⟨ρ5,M5,da,dk,dz,j5,(((c1.mono e2).mono e3).mono e4).mono e5,((c2.mono e3).mono e4).mono e5,c5,g6.bind fun ρ6 H6 M6 _ _ e6 j6 _ g7=>?_⟩
  exact g7.pure ρ6 H6 σ .refl j6 (((ev3.mono e4).mono e5).mono e6)⟩
end
end L3
namespace L3
open PySem PySem.Spec L2
open PyProof.Rows hiding St
theorem Be:bootBuiltins "enumerate"=some (.type "enumerate"):=by decide +kernel
def jP(i:Nat):List D->List D
 |[]=>[]
 |x::xs=>.tup [.int (i:Int),x]::jP (i+1) xs
def vB:List D->Option Itn
 |[x]=>(frz x).map fun p=>.fix (jP 0 p.2)
 |_=>none
theorem pD:∀ (l:List D) (k i:Nat),(jP k l)[i]?=(l[i]?).map fun x=>.tup [.int ((k + i:Nat):Int),x]
 |[],k,i=>by simp[jP]
 |x::xs,k,0=>by simp[jP]
 |x::xs,k,i+1=>by
   simp only[jP,List.getElem?_cons_succ,pD xs (k+1) i]
   rw[show k+1+i=k+(i+1) by lia]
theorem GZ{mg:Str->Option Value}{ρ:Rh}{H:Hp}{K:PySem.W.Frag}{b:Bool}{l:Addr}{xs:List V}{ds:List D}(n1:l∉ρ)(h1:H l=some (if b then .tup xs else .lst xs))(c1:Cvs mg ρ H xs ds):ItOk mg ρ H (Mr K b l) (.fix (jP 0 ds)) where
 item:=fun i ρ' H' M' d e j q=>by
  have hq:(jP 0 ds)[i]?=some d:=Option.some.inj q
  rw[pD] at hq
  obtain⟨dx,e1,rfl⟩:=Option.map_eq_some_iff.mp hq
  obtain⟨x,hx,cx⟩:=c1.get e1
  have k1:=(e.keep _ _ h1 n1 ne_if).2
  refine⟨⟨xs,x,nA k1,hx⟩,fun v H2 z=>?_⟩
  obtain⟨p,hp,rfl,z⟩:=z
  obtain⟨x',hx',rfl⟩:=z xs (nA k1)
  rw[hx] at hx';cases hx'
  rw[Nat.zero_add]
  exact⟨.lay hp,j.lay _ hp,.tup (j.fresh hp) upd_same (.cons (.int _) (.cons ((cx.kp e).mono (.lay hp)) .nil))⟩
 stop:=fun i ρ' H' M' e j q=>by
  have hq:(jP 0 ds)[i]?=none:=Option.some.inj q
  rw[pD,Option.map_eq_none_iff] at hq
  exact⟨xs,nA (e.keep _ _ h1 n1 ne_if).2,List.getElem?_eq_none_iff.mpr (by rw[c1.len];exact List.getElem?_eq_none_iff.mp hq)⟩
theorem Gz(hg:Gl X "enumerate")(hm:X.mg "enumerate"=none)(ha:DA X E [a] fa)(hs:notStar a=true:=by rfl) :
  DI X E (.Tuple elts kt tp) (.Call (.Name "enumerate" p) [a] [] pos) (fun δ=>fa δ>>=fun l=>opt (vB l)):=⟨by
 intro pins s σ H R I h
 obtain⟨ρ,δ,M,ev,j,g1⟩:=h
 refine Call_ (ld_blt I hg hm Be (PyProof.Rows.callWith_type1 (thn (ha.h.h pos pins s σ H (fun vs H1=>∃ρ1 M1 ds,Ext ρ H ρ1 H1∧J X.mg ρ1 M1 H1∧Cvs X.mg ρ1 H1 vs ds∧Go X.mg E (ItOk X.mg) R ρ1 H1 (opt (vB ds)) M1) I ⟨ρ,δ,M,ev,j,g1.bind fun ρ1 H1 M1 vs ds e1 j1 c1 g2=>⟨ρ1,M1,ds,e1,j1,c1,g2⟩⟩) fun us s1 h1=>?_) (bF hs) (by rfl)))
 obtain⟨vs,H1,I1,rv,ρ1,M1,ds,e1,j1,c1,g2⟩:=h1
 obtain⟨itn,ei,q⟩:=g2.opt
 unfold vB at ei
 split at ei
 rotate_left
 ·cases ei
 obtain⟨⟨b,l⟩,f1,rfl⟩:=Option.map_eq_some_iff.mp ei
 cases c1 with
 |cons k1 c1=>
 cases c1
 obtain⟨a1,xs,rfl,n1,h1,cx⟩:=wO (K:=X.K) k1 f1
 cases rv with
 |cons r1 rv=>
 cases rv
 cases r1
 obtain⟨its1,w1,p1,_⟩:=I1.seqS (nA (K:=X.K) h1)
 refine zx p1 fun h' a1' a2' a3 a4=>wpAny_pyIter_enum a1' ?_
 have lt1:@LT.lt Nat _ a1 s1.heap.objs.size:=p1.lt
 have I2:Inv X pins σ H1 { s1 with heap:=h' }:=I1.kept (t':=s1.toks) a4
 refine⟨_,_,_,_,H1,rfl,I2,Dj (b:=b) (e:=s1.heap.objs.size+1) (it:=s1.heap.objs.size) (l:=a1) (fun (h:@Eq Nat _ _)=>by lia) (fun (h:@Eq Nat _ _)=>by lia) (fun (h:@Eq Nat _ _)=>by lia),⟨⟨_,a1'⟩,a2'.1⟩,fun b hb=>?_,q ρ1 H1 _ .refl j1 (GZ n1 h1 cx)⟩
 refine I1.fpOk ?_ (I1.hok.fresh ?_)<;>(simp only[List.mem_cons,List.mem_nil_iff,or_false] at hb;rcases hb with rfl | rfl<;>lia)⟩
theorem Ea{i:Nat}{cl:List (Str×Addr)}{own:List Str}{js:List Nat}{fr:List Str}{f0:List Expr}{gs:List Comprehension}{fi:ao->DM Itn}{fg:D->ao->DM ao}{ft:ao->DM Bool}{fb:ao->List D->DM (ao×List D)}
  {bodyK:Cx->Addr->Sem Fin->Sem Fin}{W:Cx->Addr->(Shared->Prop)->Shared->Prop} (o:Out) (hN:X.N.Nodup) (hi0:X.N[i]?=some x) (hx:Loc X.env.scope x) (hc:X.calm=true) (T:CompG X scope cl own js fr) (hi:DI X E t0 i0 fi)
  (hturn:∀(Y:Cx) it acc,compTurn (.ListComp elt (⟨t0,i0,f0,0⟩::gs) scope pos) 0 (.ref it) (.ref acc) Y.env=turnOf ⟨t0,i0,f0,0⟩ (bodyK Y acc) (.compLoop (.ListComp elt (⟨t0,i0,f0,0⟩::gs) scope pos) 0 (.ref it) (.ref acc) Y.env) (.ref it) Y.env)
  (hW:∀Y acc,lN Y.prog Y.w Y.A (bodyK Y acc) (W Y acc)) (hmono:∀Y acc P P' s,(∀s,P s->P' s)->W Y acc P s->W Y acc P' s)
  (hg:∀pins m fp C s₂ H₂,DG (X.bB pins scope (cellsFrom m scope.names cl) (own++fr) fp C s₂ H₂) E0 t0 fg) (ht:∀pins m fp C s₂ H₂,DTs (X.bB pins scope (cellsFrom m scope.names cl) (own++fr) fp C s₂ H₂) E0 f0 ft)
  (hb:∀pins m fp C s₂ H₂ acc,BodyOk (X.bB pins scope (cellsFrom m scope.names cl) (own++fr) fp C s₂ H₂) acc (W (X.bB pins scope (cellsFrom m scope.names cl) (own++fr) fp C s₂ H₂) acc) fb)
  (hsw:swapsWith (.ListComp elt (⟨t0,i0,f0,0⟩::gs) scope pos) (some (.Name x px)) spos.line X.env=pure true:=by rfl)
  (hs:∀y,foldedSetIterable i0 X.env y=pure y:=by intro _;rfl) (hf:X.fn x=true∨X.env.scope.names.lookup x=some .local:=by first | exact .inl rfl | exact .inr rfl | assumption) :
  DS X E (.Assign [.Name x px] (.ListComp elt (⟨t0,i0,f0,0⟩::gs) scope pos) spos) (fun δ=>(fi δ>>=fun it=>dY (dC fg ft fb it (bY own.length js δ) [])>>=fun p=>o.run p.2)>>=fun d=>pure (.nx (δ.set i (some d)))):=⟨by
 intro pins s σ H D I h
 obtain⟨ρ,δ,M,ev,j,g0⟩:=h
 let Q:VK:=fun v H'=>D.nx (σ.set i (some v)) H'
 have g1:Go X.mg E (Cv X.mg) Q ρ H (fi δ>>=fun it=>dY (dC fg ft fb it (bY own.length js δ) [])>>=fun p=>o.run p.2) M:=g0.bind fun ρ1 H1 M1 v d e1 j1 c1 g2=>g2.pure ρ1 H1 _ .refl j1 ((ev.mono e1).set c1)
 rw[exec_Assign_Name_used _ _ _ _ hsw]
 refine wpAny_bind (wpAny_standAt (wpAny_bind ?_))
 show wpAny _ _ (do let _ ←comprehension (.ListComp elt (⟨t0,i0,f0,0⟩::gs) scope pos) scope X.env _ (newList []) false (eval i0 X.env) (some (assign (.Name x px) X.env))) _ _ s
 refine wpAny_bind (wpAny_mono (uX Beg.list (use:=some (assign (.Name x px) X.env)) (Qs:=fun _ s'=>∃v H',Inv X pins (σ.set i (some v)) H' s'∧Q v H') (.inl ⟨_,_,_,_,rfl⟩) rfl hc T hi hturn hW hmono hg ht (fun _ _ _ _ _ _ _ _ _=>hb _ _ _ _ _ _ _ _ _ (.head _)) hs I ev j g1 fun s2 H2 fp C m acc ρ1 lf Mf s' I2 f2 hA hC hfree nf c' g3=>?_) (fun _ s' ⟨v,H',I',q'⟩=>wpAny_pure (wpAny_pure ⟨_,H',I',q'⟩)) fun _ _ e=>e)
 obtain⟨δf,c'⟩:=c'
 obtain⟨σ4,H4,ρ4,_,I4,x4,j4,ev4,ha4,⟨ys,rfl,cl4⟩,fr4⟩:=c'.ex
 obtain⟨m4,hn4,_⟩:=I4.loc
 have hsb0:Heap.SameBut C s'.heap s'.heap:=⟨rfl,fun _ _=>rfl⟩
 have IO:Inv X pins σ H4 s':=I2.call' (s':=s') (ch:=fp) (I4.os) (Dl I4.base hsb0 hC) (yL I4.hok hsb0 I4.free) I4.bare (fun b hb=>by
  obtain⟨_,g2,g3,g4,g5,g6⟩:=f2 b hb
  exact⟨g4,g2,g5,g6⟩)
 obtain⟨fC1,fC2,fC3,fC4,fC5,fC6⟩:=I2.fpOk hC I4.free
 show wpAny _ _ (assign (.Name x px) X.env (.ref acc)) _ _ s'
 refine wpAny_assign_Name (store_ok2 IO hN hi0 hx (v:=.ref acc) rfl (fun s'' I'' hsb=>?_) hf)
 obtain⟨a,sb,ha⟩:=hsb
 have nC:C≠a:=by
  rcases ha with z | z
  ·rw[z];exact fC2
  ·exact fun e=>fC5 x a z e.symm
 exact⟨m4,hn4.sameBut sb nC,fun h' hsb'=>⟨.ref acc,H4,I''.turned (it:=C) (t':=s''.toks) (fun b o hb e=>hsb'.extBut b o hb e) fC1 fC2 fC4 (fun y c e=>fC5 y c e) fC6,o.fin hfree nf x4 j4 ha4 cl4 g3⟩⟩⟩
theorem wF{i:Nat}{cl:List (Str×Addr)}{own:List Str}{js:List Nat}{fr:List Str}{f0:List Expr}{fi:ao->DM Itn}{fg:D->ao->DM ao}{ft:ao->DM Bool}{fe:ao->DM D}
  (o:Out) (hN:X.N.Nodup) (hi0:X.N[i]?=some x) (hx:Loc X.env.scope x) (hc:X.calm=true) (T:CompG X scope cl own js fr) (hi:DI X E t0 i0 fi)
  (hg:∀pins m fp C s₂ H₂,DG (X.bB pins scope (cellsFrom m scope.names cl) (own++fr) fp C s₂ H₂) E0 t0 fg) (ht:∀pins m fp C s₂ H₂,DTs (X.bB pins scope (cellsFrom m scope.names cl) (own++fr) fp C s₂ H₂) E0 f0 ft)
  (he:∀pins m fp C s₂ H₂,DE (X.bB pins scope (cellsFrom m scope.names cl) (own++fr) fp C s₂ H₂) E0 elt fe)
  (hsw:swapsWith (.ListComp elt [⟨t0,i0,f0,0⟩] scope pos) (some (.Name x px)) spos.line X.env=pure true:=by rfl)
  (hs:∀y,foldedSetIterable i0 X.env y=pure y:=by intro _;rfl) (hf:X.fn x=true∨X.env.scope.names.lookup x=some .local:=by first | exact .inl rfl | exact .inr rfl | assumption) :
  DS X E (.Assign [.Name x px] (.ListComp elt [⟨t0,i0,f0,0⟩] scope pos) spos) (fun δ=>(fi δ>>=fun it=>dY (dC fg ft (cT fe) it (bY own.length js δ) [])>>=fun p=>o.run p.2)>>=fun d=>pure (.nx (δ.set i (some d)))):=
 Ea (bodyK:=fun Y acc=>su elt (.ref acc) Y.env) (W:=fun Y acc P s=>wpAny (model Y.prog Y.w) Y.A (eval elt Y.env) (fun x s1=>wpAny (model Y.prog Y.w) Y.A (call (.builtin "list.append") [.ref acc,x]) (fun _ s2=>P s2) (fun _ _=>False) s1) (fun _ _=>False) s) o hN hi0 hx hc T hi
  (fun Y it acc=>Gp ..) (fun Y acc=>Bt) (fun Y acc P P' s hp h=>wpAny_mono h (fun x s1 h1=>wpAny_mono h1 (fun _ s2 h2=>hp _ h2) fun _ _ z=>z) fun _ _ z=>z) hg ht (fun pins m fp C s₂ H₂ acc=>yI rfl (he ..)) hsw hs hf
end L3
namespace L3
open PySem PySem.Spec L2
structure OCls(K:PySem.W.Frag)(mg:Str->Option Value)(c:Str)(C:Addr)(fs:List Str):Prop where
 at_:mg c=some (.ref C)
 cls:L2.Cls K C
 no:∀f∈fs,NoAttr K C f
theorem qM:∀ {ns:List Str}{xs:List V}{ds:List D}{d:D},Cvs mg ρ H xs ds->(ns.zip ds).lookup f=some d->∃ v,(ns.zip xs).lookup f=some v∧Cv mg ρ H v d
 |[],_,_,_,_,e=>by simp at e
 |n::ns,_,_,_,.nil,e=>by simp at e
 |n::ns,_,_,d,.cons (v:=v) c cs,e=>by
   rw[List.zip_cons_cons,List.lookup_cons] at e ⊢
   split at e
   ·cases e;exact⟨v,rfl,c⟩
   ·exact qM cs e
def lX (c f:Str):D->Mo->Option D
 |.obj k ns vs,_=>if k=c then (ns.zip vs).lookup f else none
 |.ref n,M=>match M[n]? with
   |some (.ins k ns vs)=>if k=c then (ns.zip vs).lookup f else none
   |_=>none
 |_,_=>none
theorem bw (O:OCls K mg c C fs) (hf:f∈fs) (he:DE X E e fe)
  (hb:attributeBase e f X.env (eval e X.env)=eval e X.env:=by rfl) (hK:X.K=K:=by rfl) (hM:X.mg=mg:=by rfl):DE X E (.Attribute e f pos) (fun δ=>fe δ>>=fun x=>rd (lX c f x)):=by
 subst hK hM
 refine⟨PE.mono (pe_fld he.h hb) fun σ H Q h=>?_⟩
 obtain⟨ρ,δ,M,ev,j,g1⟩:=h
 refine⟨ρ,δ,M,ev,j,g1.bind fun ρ1 H1 M1 x dx e1 j1 c1 g2=>?_⟩
 obtain⟨d,ed,q⟩:=g2.rd
 unfold lX at ed
 split at ed
 ·split at ed
  ·rename_i hk
   subst hk
   cases c1 with
   |obj n m h l cs=>
     obtain⟨v,hv,cv⟩:=qM cs ed
     rw[O.at_] at m;cases m
     exact⟨_,_,_,_,v,rfl,h,O.cls,O.no f hf,hv,q ρ1 H1 _ .refl j1 cv⟩
  ·cases ed
 ·split at ed
  ·split at ed
   ·rename_i hm hk
    subst hk
    cases c1 with
    |ref hn=>
      obtain⟨C',dx',xs,m,h,l,cs⟩:=j1.obj _ _ _ hn hm
      obtain⟨v,hv,cv⟩:=qM cs ed
      rw[O.at_] at m;cases m
      exact⟨_,_,_,_,v,rfl,h,O.cls,O.no f hf,hv,q ρ1 H1 _ .refl j1 cv⟩
   ·cases ed
  ·cases ed
 ·cases ed
def vC:List D->Mo->Option (List D)
 |[.int j],_=>if -(2^62)≤j∧j≤2^20 then some ((List.range j.toNat).map nD) else none
 |_,_=>none
theorem yF:∀l:List Nat,Cvs mg ρ H (l.map fun i:Nat=>V.int (i:Int)) (l.map nD)
 |[]=>.nil
 |n::l=>.cons (.int _) (yF l)
section
variable{X:Cx}{E:XK}{a:Expr}{fa:ao->DM (List D)}{p1 p2 pos1 pos2:Pos}
theorem uZ (hc:X.calm=true) (hmL:X.mg "list"=none) (hm:X.mg "range"=none) (ha:DA X E [a] fa) (hgL:Gl X "list":=by rfl) (hg:Gl X "range":=by rfl) (hs:notStar a=true:=by rfl) :
  DE X E (.Call (.Name "list" p1) [.Call (.Name "range" p2) [a] [] pos2] [] pos1) (fun δ=>fa δ>>=fun l=>rd (fun M=>(vC l M).map D.lst)):=⟨PE.mono (Cr hc hgL hmL hg hm ha.h.h hs) fun σ H Q h=>by
 obtain⟨ρ,δ,M,ev,j,g1⟩:=h
 refine⟨ρ,δ,M,ev,j,g1.bind fun ρ1 H1 M1 xs ds e1 j1 c1 g2=>?_⟩
 obtain⟨d,ed,q⟩:=g2.rd
 obtain⟨l,el,rfl⟩:=Option.map_eq_some_iff.mp ed
 unfold vC at el
 split at el
 ·split at el
  ·rename_i hb
   cases el
   obtain⟨v,rfl,k⟩:=c1.one
   cases k
   exact⟨_,rfl,hb.2,hb.1,fun p hp=>q ρ1 _ _ (.lay hp) (j1.lay _ hp) (.lst (j1.fresh hp) upd_same (yF _))⟩
  ·cases el
 ·cases el⟩
end
section
variable{X:Cx}{E:XK}
def zK:List D->Mo->Option D
 |[.bl b],_=>some (.int (if b then 1 else 0))
 |_,_=>none
theorem Bg:CallR X (.type "int") (fun xs H Q=>∃ b,xs=[.bl b]∧Q (.int (if b then 1 else 0)) H):=by
 intro pins s σ H xs us Q I rs h
 obtain⟨b,rfl,q⟩:=h
 cases rs with
 |cons r rr=>
   cases rr
   cases r
   exact call_int_bool ⟨.int (if b then 1 else 0),H,I.tok _,⟨_,rfl⟩,q⟩
theorem lQ:CallD X E (.type "int") (fun l=>rd (zK l)):=CallD.of Bg fun vs H Q ρ M ds d j c e q=>by
 unfold zK at e
 split at e
 ·cases e
  obtain⟨v,rfl,k⟩:=c.one
  cases k
  exact⟨_,rfl,q ρ H _ .refl j (.int _)⟩
 ·cases e
end
theorem pB{n:Nat}{l:List D}{i:Nat}(h:M[n]?=some (.lst l))(hi:l[i]?=some a):FJ (.ref n) (.int (i:Int)) M=some a:=by
 show (if (0:Int)≤(i:Int) then (bh (.ref n) M).bind _ else none)=_
 rw[if_pos (by lia)]
 simp only[bh,h,Option.bind_some]
 exact kI hi
theorem Es(hn:n≤1000)(q:Rn (k (.ref M.length)) (M++[.lst ((List.replicate n 0).map nD)]) Q):Rn (JG (.lst [.int 0]) (nD n)>>=k) M Q:=by
 have e:qN (.lst [.int 0]) (nD n) M=some ((List.replicate n 0).map nD):=by
  show zZ [.int 0] (n:Int)=_
  unfold zZ
  rw[if_pos (decide_eq_true ⟨by lia,by lia,by show _≤2^24;simp;lia⟩)]
  congr 1
  simp[List.flatten_replicate_singleton,nD]
 show Rn ((rd (qN (.lst [.int 0]) (nD n))>>=dD)>>=k) M Q
 rw[aq]
 refine Rn.bindRd _ e ?_
 exact Rn.dD (by simp;lia) q
end L3
namespace L3
open PySem PySem.Spec L2
open PyProof.Rows hiding St
def putN(f:Str):List Str->List Str
 |[]=>[f]
 |g::r=>if g=f then g::r else g::putN f r
def bR{α:Type}(f:Str)(v:α):List Str->List α->List α
 |[],_=>[v]
 |g::r,x::xs=>if g=f then v::xs else x::bR f v r xs
 |_::_,[]=>[]
theorem xr (f:Str) (v:V):∀ (ns:List Str) (xs:List V),ns.length=xs.length->putF f v (ns.zip xs)=(putN f ns).zip (bR f v ns xs)
 |[],[],_=>rfl
 |g::r,x::xs,h=>by
   show putF f v ((g,x)::r.zip xs)=_
   unfold putF putN bR
   by_cases e:g=f
   ·rw[if_pos e,if_pos e,if_pos e];rfl
   ·rw[if_neg e,if_neg e,if_neg e,xr f v r xs (by simpa using h)];rfl
theorem xu (f:Str) (v:α):∀ (ns:List Str) (xs:List α),ns.length=xs.length->(putN f ns).length=(bR f v ns xs).length
 |[],[],_=>rfl
 |g::r,x::xs,h=>by
   unfold putN bR
   by_cases e:g=f
   ·rw[if_pos e,if_pos e];simpa using h
   ·rw[if_neg e,if_neg e,List.length_cons,List.length_cons,xu f v r xs (by simpa using h)]
theorem Cvs.put (c:Cv mg ρ H v d):∀ (ns:List Str) {xs:List V}{ds:List D},Cvs mg ρ H xs ds->Cvs mg ρ H (bR f v ns xs) (bR f d ns ds)
 |[],_,_,_=>.cons c .nil
 |g::r,_,_,.nil=>.nil
 |g::r,_,_,.cons h t=>by
   unfold bR
   by_cases e:g=f
   ·rw[if_pos e,if_pos e];exact .cons c t
   ·rw[if_neg e,if_neg e];exact .cons h (Cvs.put c r t)
def jK (c f:Str) (o d:D):DM Unit:=fun M=>match o with
 |.ref n=>match M[n]? with
   |some (.ins k ns vs)=>if k=c∧ns.length=vs.length∧ns.length<1000 then some (.ok (),M.set n (.ins k (putN f ns) (bR f d ns vs))) else none
   |_=>none
 |_=>none
section
variable{X:Cx}{E:XK}
theorem eO {K:PySem.W.Frag}{mg:Str->Option Value}{c f:Str}{C:Addr}{fs:List Str}{o value:Expr}{fo fv:ao->DM D}{pos pos':Pos} (O:OCls K mg c C fs) (hf:f∈fs) (ho:DE X E o fo) (hv:DE X E value fv)
  (hs:swapsWith value (some (.Attribute o f pos')) pos.line X.env=pure false:=by rfl) (hK:X.K=K:=by rfl) (hM:X.mg=mg:=by rfl) :
  DS X E (.Assign [.Attribute o f pos'] value pos) (fun δ=>fv δ>>=fun d=>fo δ>>=fun o=>jK c f o d>>=fun _=>pure (.nx δ)):=by
 subst hK hM
 refine⟨PS.mono (ps_fld ho.h hv.h hs) fun D σ H h=>?_⟩
 obtain⟨ρ,δ,M,ev,j,g1⟩:=h
 refine⟨ρ,δ,M,ev,j,g1.bind fun ρ1 H1 M1 y dy e1 j1 c1 g2=>⟨ρ1,δ,M1,ev.mono e1,j1,g2.bind fun ρ2 H2 M2 x dx e2 j2 c2 g3=>?_⟩⟩
 obtain⟨r,e,p⟩:=g3
 have e:DM.bind _ _ M2=some r:=e
 unfold DM.bind jK at e
 cases dx with
 | ref n=>
   dsimp only at e
   cases c2 with | ref hn=>
   rename_i a
   cases hm:M2[n]? with
   |none=>rw[hm] at e;cases e
   | some u=>
     rw[hm] at e
     cases u with
     |lst l=>cases e
     |dic ks l=>cases e
     | ins k ns vs=>
       dsimp only at e
       split at e
       ·cases e
       ·rename_i he;split at he<;>cases he
       ·rename_i he
        split at he
        ·rename_i hk
         obtain⟨rfl,hl,hz⟩:=hk
         cases he
         cases e
         obtain⟨C',dx',xs,m,hx,l,cs⟩:=j2.obj _ _ _ hn hm
         rw[O.at_] at m;cases m
         have c1':=c1.mono e2
         have x:Ext ρ2 H2 ρ2 (upd H2 a (.ins C dx' (putF f y (ns.zip xs)))):=.upd (List.mem_of_getElem? hn)
         refine⟨a,C,dx',_,rfl,hx,O.cls,O.no f hf,?_,?_⟩
         ·rw[List.length_zip];lia
         refine p ρ2 _ σ x (j2.upd hn ?_) (((ev.mono e1).mono e2).mono x)
         refine⟨C,dx',bR f y ns xs,O.at_,by rw[upd_same,xr f y ns xs l],xu f y ns xs l,?_⟩
         exact (Cvs.put c1' ns cs).mono x
        ·cases he
 |_=>cases e
end
structure MethD(P:Program)(w:World)(K:PySem.W.Frag)(mg:Str->Option Value)(base:Heap)(k:Nat)(c x qual:Str)(st:Stmt)(ps:List Str)(F:List D->DM D):Prop where
 ex:∃C f fd,mg c=some (.ref C)∧FnOk P w K mg base (bM P w) k f fd ps (oW mg F)∧Fun K x qual st f fd∧PySem.W.findIn K (.ref C) x=some (some (.ref f))∧PySem.W.isFn K (.ref f)=true∧L2.Cls K C
section
variable{P:Program}{w:World}{K:PySem.W.Frag}{mg:Str->Option Value}{base:Heap}{k:Nat}{C:Addr}{c x qual:Str}{N ps:List Str}{st:Stmt}{fb:ao->DM Fl}{f:Addr}{fd:FuncData}{is:List Int}
theorem MT (F:Fun K x qual st f fd) (S:FnScope N ps (defScope st))
  (hbody:∀(f:Addr) (cdv:Value) (A:Around) (outer:List Env) (s:Shared) (H:Hp) (E:XK),Room k (A.deeper (envOfC qual (defScope st) s.heap.objs.size f cdv))->
    DSs (bO P w K mg base N qual (defScope st) f cdv A outer s H E) E (defBody st) fb):FnOk P w K mg base (bM P w) (k+1) f fd ps (oW mg (aK ps.length N.length fb)):=by
 refine Nf F S (fun vs H Q E h=>?_) fun cdv A outer s H vs Q E hr h=>?_
 ·obtain⟨ρ,M,ds,c,j,g⟩:=h
  rw[c.len];exact (bL.aK g).1
 obtain⟨ρ,M,ds,c,j,g⟩:=h
 exact⟨_,(hbody f cdv A outer s H E hr).h,ρ,_,M,jl c,j,(bL.aK g).2⟩
theorem MethAt.okD (T:MethAt K C x qual st) (m:mg c=some (.ref C)) (cl:L2.Cls K C) (S:FnScope N ps (defScope st))
  (hbody:∀(f:Addr) (cdv:Value) (A:Around) (outer:List Env) (s:Shared) (H:Hp) (E:XK),Room k (A.deeper (envOfC qual (defScope st) s.heap.objs.size f cdv))->
    DSs (bO P w K mg base N qual (defScope st) f cdv A outer s H E) E (defBody st) fb):MethD P w K mg base (k+1) c x qual st ps (aK ps.length N.length fb):=by
 obtain⟨f,fd,F,a,n⟩:=T.ex
 exact⟨C,f,fd,m,MT F S hbody,F,a,n,cl⟩
end
def jm (c m:Str):D->Mo->Option Unit
 |.obj k ns _,_=>if k=c∧ns.contains m=false then some () else none
 |.ref n,M=>match M[n]? with
   |some (.ins k ns _)=>if k=c∧ns.contains m=false then some () else none
   |_=>none
 |_,_=>none
theorem rE:∀ (ns:List Str) (xs:List α),ns.contains m=false->(ns.zip xs).lookup m=none
 |[],_,_=>rfl
 |n::ns,[],_=>rfl
 |n::ns,x::xs,h=>by
   rw[List.contains_cons,Bool.or_eq_false_iff] at h
   rw[List.zip_cons_cons,List.lookup_cons,h.1]
   exact rE ns xs h.2
theorem ur (mc:mg c=some (.ref C)) (j:J mg ρ M H) (cv:Cv mg ρ H v d) (e:jm c m d M=some u):∃ a dx fs,v=.ref a∧H a=some (.ins C dx fs)∧fs.lookup m=none:=by
 unfold jm at e
 split at e
 ·split at e
  ·rename_i hk
   obtain⟨rfl,hn⟩:=hk
   cases cv with
   |obj n m' h l cs=>
     rw[mc] at m';cases m'
     exact⟨_,_,_,rfl,h,rE _ _ hn⟩
  ·cases e
 ·split at e
  ·rename_i hm
   split at e
   ·rename_i hk
    obtain⟨rfl,hn⟩:=hk
    cases cv with
    |ref h=>
      obtain⟨C',dx',xs,m',hx,l,cs⟩:=j.obj _ _ _ h hm
      rw[mc] at m';cases m'
      exact⟨_,_,_,rfl,hx,rE _ _ hn⟩
   ·cases e
  ·cases e
 ·cases e
structure DKw(X:Cx)(E:XK)(kws:List Keyword)(f:ao->DM (List D)):Prop where
 h:PK X kws (tD X.mg E (Cvs X.mg) f)
theorem PK.mono(h:PK X e t)(f:∀σ H Q,t' σ H Q->t σ H Q):PK X e t':=fun p pins s σ H Q I q=>h p pins s σ H Q I (f σ H Q q)
section
variable{X:Cx}{E:XK}{j k:Nat}{ps:List Str}{F:List D->DM D}{c m x qual:Str}{st:Stmt}{p pos apos kpos:Pos}{a e o:Expr}{es:List Expr}{fa fo:ao->DM D}{fs fk:ao->DM (List D)}{kws:List Keyword}{nm:Option Str}{ks:List Str}
theorem Br:DKw X E [] (fun _=>pure []):=⟨PK.mono pk_nil fun σ H Q h=>by
 obtain⟨ρ,δ,M,ev,j,g⟩:=h
 exact g.pure ρ H [] .refl j .nil⟩
theorem IK(ha:DE X E a fa)(hr:DKw X E kws fs):DKw X E (⟨nm,a,kpos⟩::kws) (fun δ=>fa δ>>=fun x=>fs δ>>=fun xs=>pure (x::xs)):=⟨PK.mono (pk_cons ha.h hr.h) fun σ H Q h=>by
 obtain⟨ρ,δ,M,ev,j,g1⟩:=h
 exact⟨ρ,δ,M,ev,j,g1.bind fun ρ1 H1 M1 x dx e1 j1 c1 g2=>⟨ρ1,δ,M1,ev.mono e1,j1,g2.bind fun ρ2 H2 M2 xs dxs e2 j2 c2 g3=>g3.pure ρ2 H2 _ .refl j2 (.cons (c1.mono e2) c2)⟩⟩⟩
def gK{α:Type}(n:Nat)(us ws:List α):List α:=if ws.length=n then us++ws else []
theorem Jr {K:PySem.W.Frag}{f:Addr}{fd:FuncData} (B:Fun K x qual st f fd) (h0:0<ps.length)
  (hb:∀(kV doc pm:Value) (an:Option Addr) (cdv ct:Value) (us ws:List Value),ws.length=ks.length->us.length+ks.length=ps.length->bindArgs (PySem.W.fnOf x qual (defArgs st) (defBody st) (defScope st) .none kV doc pm an cdv ct) ⟨us,ks.zip ws⟩=pure (ps.zip (us++ws))):KBinds K fd ps ks (gK ks.length) (gK ks.length):=by
 obtain⟨oc,od,kV,doc,pm,an,cdv,ct,osl,rfl,lk,hcd⟩:=B.ex
 refine⟨fun s us ws _ hl=>?_,fun r r'=>?_⟩
 ·unfold gK at hl ⊢
  split at hl
  ·rename_i hw
   rw[if_pos hw]
   rw[List.length_append] at hl
   exact .of_eq (hb kV doc pm an cdv ct us ws hw (by lia))
  ·simp at hl;lia
 ·unfold gK
  rw[r'.length]
  split
  ·exact r.append r'
  ·exact .nil
theorem gH (T:MethD X.prog X.w X.K X.mg X.base j c m qual st ps F) (hr:Room k X.A) (hx:Passes (bM X.prog X.w) X E) (ho:DE X E o fo) (ha:DA X E (e::es) fs)
  (hb:∀(kV doc pm:Value) (an:Option Addr) (cdv ct:Value) (us:List Value),us.length=ps.length->bindArgs (PySem.W.fnOf m qual (defArgs st) (defBody st) (defScope st) .none kV doc pm an cdv ct) ⟨us,[]⟩=pure (ps.zip us))
  (hjk:j≤k:=by decide) (he:notStar e=true:=by rfl) (hpl:(backTo pos (starEach es X.env)).any (·.1)=false:=by rfl)
  (ht:eval (.Call (.Attribute o m apos) (e::es) [] pos) X.env=(do
    let ov ←eval o X.env
    standAt apos.atName
    let (f,first) ←holding [ov] (getMethod ov m pl)
    callWith pos f first (backTo pos (starEach (e::es) X.env)) (backToKw pos (keywordEach [] X.env))):=by rfl) :
  DE X E (.Call (.Attribute o m apos) (e::es) [] pos) (fun δ=>fo δ>>=fun x=>rd (jm c m x)>>=fun _=>fs δ>>=fun ds=>F (x::ds)):=by
 obtain⟨C,f,fd,mc,G,B,a,n,cl⟩:=T.ex
 refine⟨PE.mono (pe_meth (pl:=pl) ho.h cl ⟨a,n,B.kp⟩ G (hr.mono hjk) (B.binds hb) .nil hx ha.h.h (bF he) hpl ht) fun σ H Q h=>?_⟩
 obtain⟨ρ,δ,M,ev,j,g1⟩:=h
 refine⟨ρ,δ,M,ev,j,g1.bind fun ρ1 H1 M1 x dx e1 j1 c1 g2=>?_⟩
 obtain⟨u,eu,g3⟩:=Go.rdb g2
 obtain⟨a',dx',fs',ex,hx',hl'⟩:=ur mc j1 c1 eu
 refine⟨a',dx',fs',ex,hx',hl',ρ1,δ,M1,ev.mono e1,j1,g3.bind fun ρ2 H2 M2 xs dxs e2 j2 c2 g4=>?_⟩
 rw[List.append_nil]
 exact⟨ρ2,M2,dx::dxs,.cons (c1.mono e2) c2,j2,g4⟩
theorem ji (T:MethD X.prog X.w X.K X.mg X.base j c m qual st ps F) (hr:Room k X.A) (hx:Passes (bM X.prog X.w) X E) (ho:DE X E o fo)
  (hb:∀(kV doc pm:Value) (an:Option Addr) (cdv ct:Value) (us:List Value),us.length=ps.length->bindArgs (PySem.W.fnOf m qual (defArgs st) (defBody st) (defScope st) .none kV doc pm an cdv ct) ⟨us,[]⟩=pure (ps.zip us))
  (hjk:j≤k:=by decide)
  (ht:eval (.Call (.Attribute o m apos) [] [] pos) X.env=(do
    let ov ←eval o X.env
    standAt apos.atName
    let (f,first) ←holding [ov] (getMethod ov m pl)
    callWith pos f first (backTo pos (starEach [] X.env)) (backToKw pos (keywordEach [] X.env))):=by rfl) :
  DE X E (.Call (.Attribute o m apos) [] [] pos) (fun δ=>fo δ>>=fun x=>rd (jm c m x)>>=fun _=>F [x]):=by
 obtain⟨C,f,fd,mc,G,B,a,n,cl⟩:=T.ex
 refine⟨PE.mono (pe_meth0 (pl:=pl) ho.h cl ⟨a,n,B.kp⟩ G (hr.mono hjk) (B.binds hb) .nil hx ht) fun σ H Q h=>?_⟩
 obtain⟨ρ,δ,M,ev,j,g1⟩:=h
 refine⟨ρ,δ,M,ev,j,g1.bind fun ρ1 H1 M1 x dx e1 j1 c1 g2=>?_⟩
 obtain⟨u,eu,g3⟩:=Go.rdb g2
 obtain⟨a',dx',fs',ex,hx',hl'⟩:=ur mc j1 c1 eu
 exact⟨a',dx',fs',ex,hx',hl',ρ1,M1,[dx],.cons c1 .nil,j1,g3⟩
def KC(C:Addr)(m:Str)(sp:Sp)(gV:List V->List V->List V)(E:XK)(ta:TE)(t tk:TA):TE:=fun σ H Q=>ta σ H fun x H1=>∃a dx fs,x=.ref a∧H1 a=some (.ins C dx fs)∧fs.lookup m=none ∧
 t σ H1 fun vs H2=>tk σ H2 fun zs H3=>sp (gV (x::vs) zs) H3 Q E
theorem Ez (he:PE X o ta) (cl:L2.Cls X.K C) (hm:Meth X.K C m f) (G:FnOk X.prog X.w X.K X.mg X.base CX k f fd ps sp) (hr:Room k X.A) (hb:KBinds X.K fd ps ks g gV) (hx:Passes CX X E) (ha:PA X (e::es) t) (hkw:PK X kws tk)
  (hall:(backToKw pos (keywordEach kws X.env)).all (·.1.isSome)=true) (hks:(backToKw pos (keywordEach kws X.env)).filterMap (·.1)=ks)
  (hst:starEach (e::es) X.env=(false,eval e X.env)::starEach es X.env) (hpl:((backTo pos (starEach (e::es) X.env)).any (·.1) || (backToKw pos (keywordEach kws X.env)).any (·.1.isNone))=false)
  (ht:eval (.Call (.Attribute o m apos) (e::es) kws pos) X.env=(do
    let ov ←eval o X.env
    standAt apos.atName
    let (f,first) ←holding [ov] (getMethod ov m pl)
    callWith pos f first (backTo pos (starEach (e::es) X.env)) (backToKw pos (keywordEach kws X.env)))) :
  PE X (.Call (.Attribute o m apos) (e::es) kws pos) (KC C m sp gV E ta t tk):=by
 intro pins s σ H Q I h
 refine PySem.W.methodCall_KW (pl:=pl) (thn (he pins s σ H _ I h) fun u s1 ⟨x,H1,I1,rx,a,dx,fs,ex,ea,l,q⟩=>?_) ht
 subst ex
 obtain rfl:u=Value.ref a:=rx
 refine getmeth_ok I1 ea cl hm l ?_
 refine PySem.W.callWith_KW (first:=[.ref a]) (h₀:=X.base) I.ok.mod.kin hm.kp hall (thn (ha pos pins s1 σ H1 _ I1 q) fun us s2 ⟨vs,H2,I2,r,q2⟩=>?_) hpl hst
 refine thn (hkw pos pins s2 σ H2 _ I2 q2) fun ws s3 ⟨zs,H3,I3,rz,q3⟩=>⟨I3.kIn,?_⟩
 rw[hks]
 exact run_fnk (us:=.ref a::us) (vs:=.ref a::vs) G hr hb hx I3 (.cons rfl r) rz q3
theorem wC {pl:Sem Bool} (T:MethD X.prog X.w X.K X.mg X.base j c m qual st ps F) (hr:Room k X.A) (hx:Passes (bM X.prog X.w) X E) (ho:DE X E o fo) (ha:DA X E (e::es) fs) (hkw:DKw X E kws fk)
  (hb:∀(kV doc pm:Value) (an:Option Addr) (cdv ct:Value) (us ws:List Value),ws.length=ks.length->us.length+ks.length=ps.length->bindArgs (PySem.W.fnOf m qual (defArgs st) (defBody st) (defScope st) .none kV doc pm an cdv ct) ⟨us,ks.zip ws⟩=pure (ps.zip (us++ws)))
  (hjk:j≤k:=by decide) (h0:0<ps.length:=by decide) (hall:(backToKw pos (keywordEach kws X.env)).all (·.1.isSome)=true:=by rfl) (hks:(backToKw pos (keywordEach kws X.env)).filterMap (·.1)=ks:=by rfl)
  (he:notStar e=true:=by rfl) (hpl:((backTo pos (starEach (e::es) X.env)).any (·.1) || (backToKw pos (keywordEach kws X.env)).any (·.1.isNone))=false:=by rfl)
  (ht:eval (.Call (.Attribute o m apos) (e::es) kws pos) X.env=(do
    let ov ←eval o X.env
    standAt apos.atName
    let (f,first) ←holding [ov] (getMethod ov m pl)
    callWith pos f first (backTo pos (starEach (e::es) X.env)) (backToKw pos (keywordEach kws X.env))):=by rfl) :
  DE X E (.Call (.Attribute o m apos) (e::es) kws pos) (fun δ=>fo δ>>=fun x=>rd (jm c m x)>>=fun _=>fs δ>>=fun ds=>fk δ>>=fun dk=>if dk.length=ks.length then F (x::(ds++dk)) else stuck):=by
 obtain⟨C,f,fd,mc,G,B,a,n,cl⟩:=T.ex
 refine⟨PE.mono (Ez (pl:=pl) ho.h cl ⟨a,n,B.kp⟩ G (hr.mono hjk) (Jr B h0 hb) hx ha.h.h hkw.h hall hks (bF he) hpl ht) fun σ H Q h=>?_⟩
 obtain⟨ρ,δ,M,ev,j,g1⟩:=h
 refine⟨ρ,δ,M,ev,j,g1.bind fun ρ1 H1 M1 x dx e1 j1 c1 g2=>?_⟩
 obtain⟨u,eu,g3⟩:=Go.rdb g2
 obtain⟨a',dx',fs',ex,hx',hl'⟩:=ur mc j1 c1 eu
 refine⟨a',dx',fs',ex,hx',hl',ρ1,δ,M1,ev.mono e1,j1,g3.bind fun ρ2 H2 M2 xs dxs e2 j2 c2 g4=>⟨ρ2,δ,M2,(ev.mono e1).mono e2,j2,g4.bind fun ρ3 H3 M3 zs dzs e3 j3 c3 g5=>?_⟩⟩
 split at g5
 ·rename_i hl
  unfold gK
  rw[if_pos (by rw[c3.len];exact hl)]
  exact⟨ρ3,M3,dx::(dxs++dzs),.cons ((c1.mono e2).mono e3) ((c2.mono e3).append c3),j3,g5⟩
 ·obtain⟨r,e,_⟩:=g5;cases e
end
structure ClsD(P:Program)(w:World)(K:PySem.W.Frag)(mg:Str->Option Value)(base:Heap)(k:Nat)(c:Str)(F:List D->DM D):Prop where
 ex:∃C ps sp,MethC P w K mg base k C "__init__" ps sp∧PySem.W.makesIn K C=true∧PySem.W.keepIn K (.ref C)=true∧mg c=some (.ref C) ∧
  ∀ρ M H vs ds Q E,Cvs mg ρ H vs ds->J mg ρ M H->Go mg E (Cv mg) Q ρ H (F ds) M->∀x dx,H x=none->H dx=none->dx≠x->sp (.ref x::vs) (upd (upd H dx (.own x)) x (.ins C dx [])) (fun v H2=>v=.non∧Q (.ref x) H2) E
theorem o9(T:ClsD X.prog X.w X.K X.mg X.base j c F)(hr:Room k X.A)(hx:Passes (bM X.prog X.w) X E)(ha:DA X E (e::es) fs)(hjk:j+1≤k:=by decide)(hg:Gl X c:=by rfl)(hdb:(c==("__debug__":Str))=false:=by decide)
  (he:notStar e=true:=by rfl) (hpl:(backTo pos (starEach es X.env)).any (·.1)=false:=by rfl) :
  DE X E (.Call (.Name c p) (e::es) [] pos) (fun δ=>fs δ>>=F):=by
 obtain⟨C,ps,sp,G,mk,kc,m,h⟩:=T.ex
 refine⟨PE.mono (Ey G mk kc m hr hx ha.h hjk hg hdb he hpl) fun σ H Q z=>?_⟩
 obtain⟨ρ,δ,M,ev,j,g1⟩:=z
 refine⟨ρ,δ,M,ev,j,g1.bind fun ρ1 H1 M1 xs dxs e1 j1 c1 g2=>fun x dx h1 h2 h3=>?_⟩
 rw[List.append_nil]
 exact h ρ1 M1 H1 xs dxs Q E c1 j1 g2 x dx h1 h2 h3
def FQ(c:Str):DM D:=fun M=>some (.ok (.ref M.length),M++[.ins c [] []])
section
variable{mg:Str->Option Value}{ρ:Rh}{H:Hp}{k:Nat}{M':Mo}
theorem Cvs.fz(hk:ρ.st.length=k){vs:List V}{ds:List D}(h:Cvs mg ρ H vs ds):Fzs M' k ds ds:=
 Cvs.rec (motive_1:=fun _ d _=>Fz M' k d d) (motive_2:=fun _ ds _=>Fzs M' k ds ds) .non .bl .int .str (fun _ _ _=>.tup) (fun _ _ _=>.lst) (fun _ _ _ _=>.dic) (fun _ _ _ _ _=>.obj) (fun _ _=>.scr _) (fun h=>.old (hk ▸ (List.getElem?_eq_some_iff.mp h).1)) (fun _=>.cls _) .ty .exn .nil (fun _ _=>.cons) h
theorem Cv.fz(hk:ρ.st.length=k){v:V}{d:D}(h:Cv mg ρ H v d):Fz M' k d d:=by cases Cvs.fz hk (.cons h .nil);assumption
theorem Cvs.fz_mem(hk:ρ.st.length=k){vs:List V}{ds:List D}(h:Cvs mg ρ H vs ds):∀d∈ds,Fz M' k d d:=h.ind (P:=fun _ ds=>∀d∈ds,Fz M' k d d) nofun fun a _ i d h=>(List.mem_cons.mp h).elim (fun e=>e ▸ a.fz hk) (i d)
theorem BJ:∀{ds:List D},(∀d∈ds,Fz M' k d d)->Fzs M' k ds ds
 |[],_=>.nil
 |d::ds,h=>.cons (h d (by simp)) (BJ fun e he=>h e (by simp[he]))
theorem J.fz(j:J mg ρ M H):Mq (M++[o]) M.length M:=by
 refine⟨rfl,fun n u h=>?_⟩
 have hn:=(List.getElem?_eq_some_iff.mp h).1
 refine⟨u,by rw[List.getElem?_append_left hn];exact h,?_⟩
 have hl:n<ρ.st.length:=by rw[j.len];exact hn
 have c:=j.obj n ρ.st[n] u (List.getElem?_eq_getElem hl) h
 cases u with
 |lst l=>obtain⟨xs,_,c⟩:=c;exact c.fz j.len
 |dic ks l=>obtain⟨xs,_,_,c⟩:=c;exact⟨rfl,c.fz j.len⟩
 |ins cc ns l=>obtain⟨C,dx,xs,_,_,_,c⟩:=c;exact⟨rfl,rfl,c.fz j.len⟩
end
def Ia(c:Str)(Fi:List D->DM D)(ds:List D)(M:Mo)(r':R D×Mo):Prop:=
 (∃ns vs,Fi (.ref M.length::ds) (M++[.ins c [] []])=some (.ok .non,M++[.ins c ns vs])∧(∀d∈vs,d∈ds∨∃i,d=.int i)∧r'=(.ok (.obj c ns vs),M)) ∨
 (∃e o,Fi (.ref M.length::ds) (M++[.ins c [] []])=some (.exc e,M++[o])∧r'=(.exc e,M))
theorem MN{P:Program}{w:World}{K:PySem.W.Frag}{mg:Str->Option Value}{base:Heap}{k:Nat}{c qual:Str}{st:Stmt}{ps:List Str}{Fi F':List D->DM D}(T:MethD P w K mg base k c "__init__" qual st ps Fi)
  (hb:∀(kV doc pm:Value) (an:Option Addr) (cdv ct:Value) (us:List Value),us.length=ps.length->bindArgs (PySem.W.fnOf "__init__" qual (defArgs st) (defBody st) (defScope st) .none kV doc pm an cdv ct) ⟨us,[]⟩=pure (ps.zip us))
  (hm:∀C,mg c=some (.ref C)->PySem.W.makesIn K C=true∧PySem.W.keepIn K (.ref C)=true) (hf:∀ds M r',F' ds M=some r'->Ia c Fi ds M r'):ClsD P w K mg base k c F':=by
 obtain⟨C,f,fd,mc,G,B,a,n,cl⟩:=T.ex
 refine⟨C,ps,_,⟨f,fd,G,B.binds hb,B.kp,a,n⟩,(hm C mc).1,(hm C mc).2,mc,fun ρ M H vs ds Q E cv j g x dx hx hdx hne=>?_⟩
 obtain⟨r',e,p⟩:=g
 have hx':upd H dx (.own x) x=none:=by rw[upd_ne (fun z=>hne z.symm)];exact hx
 have x1:Ext ρ H ρ (upd H dx (.own x)):=.lay hdx
 have j1:=j.lay (.own x) hdx
 have x2:Ext ρ (upd H dx (.own x)) (ρ.put x) (upd (upd H dx (.own x)) x (.ins C dx [])):=.put hx'
 have j2:J mg (ρ.put x) (M++[.ins c [] []]) (upd (upd H dx (.own x)) x (.ins C dx [])):=j1.put hx' ⟨C,dx,[],mc,upd_same,rfl,.nil⟩
 have hput:(ρ.put x).st[M.length]?=some x:=by
  show (ρ.st++[x])[M.length]?=some x
  rw[←j.len,List.getElem?_append_right (Nat.le_refl _)];simp
 refine⟨ρ.put x,M++[.ins c [] []],.ref M.length::ds,.cons (.ref hput) (cv.mono (x1.trans x2)),j2,?_⟩
 have sb:∀{ρ2 H2},Ext (ρ.put x) (upd (upd H dx (.own x)) x (.ins C dx [])) ρ2 H2->Sub ρ ρ2 M.length:=fun {ρ2 H2} y=>by
  obtain⟨τ,ht⟩:=y.pre
  exact⟨⟨[x]++τ,by rw[ht];show (ρ.st++[x])++τ=_;simp⟩,y.vo,j.len⟩
 have ex:∀{ρ2 H2},Ext (ρ.put x) (upd (upd H dx (.own x)) x (.ins C dx [])) ρ2 H2->Ext ρ H ρ H2:=fun {ρ2 H2} y=>⟨⟨[],by simp⟩,rfl,fun a h n=>absurd h n,fun b o hb hn=>y.keep b o (by
  have nx:b≠x:=ne_of_none hb hx
  have ndx:b≠dx:=ne_of_none hb hdx
  rw[upd_ne nx,upd_ne ndx];exact hb) (fun z=>by
  rcases List.mem_append.mp z with z | z
  ·exact hn z
  ·exact ne_of_none hb hx (List.mem_singleton.mp z))⟩
 rcases hf ds M r' e with ⟨ns,vs',e2,hv,rfl⟩ | ⟨er,o,e2,rfl⟩
 ·refine⟨_,e2,fun ρ2 H2 b y j3 cb=>?_⟩
  cases cb
  refine⟨rfl,p ρ H2 (.ref x) (ex y) (j3.freeze (sb y) j.len j.fz) ?_⟩
  have h3:ρ2.st[M.length]?=some x:=y.at hput
  obtain⟨C',dx',xs,m',hx3,l,cs⟩:=j3.obj M.length x (.ins c ns vs') h3 (by simp)
  refine .obj (j.fresh hx) m' hx3 l (Cvs.freeze (sb y) j3 (BJ fun d hd=>?_) cs)
  rcases hv d hd with h | ⟨i,rfl⟩
  ·exact cv.fz_mem j.len d h
  ·exact .int i
 ·refine⟨_,e2,fun ρ2 H2 C2 y j3 m2=>?_⟩
  exact p ρ H2 C2 (ex y) (j3.freeze (sb y) j.len j.fz) m2
end L3
namespace L3
open PySem PySem.Spec L2 LS
end L3
namespace L3
open PySem PySem.Spec L2
theorem fQ(h:l.length=1):∃a,l=[a]:=match l,h with | [a],_=>⟨a,rfl⟩
theorem uw(h:l.length=2):∃a b,l=[a,b]:=match l,h with | [a,b],_=>⟨a,b,rfl⟩
theorem qL(h:l.length=3):∃a b c,l=[a,b,c]:=match l,h with | [a,b,c],_=>⟨a,b,c,rfl⟩
theorem El(h:l.length=4):∃a b c d,l=[a,b,c,d]:=match l,h with | [a,b,c,d],_=>⟨a,b,c,d,rfl⟩
def lU:D->DM D
 |.int n=>if 0≤n∧n<2^63 then pure (.int n) else stuck
 |_=>stuck
def zM(c:Str)(F:List D->DM D):List D->DM D
 |[.obj k ns vs]=>if k=c then F [.obj k ns vs]>>=lU else stuck
 |l=>rd (cW l)
theorem nU (T:MethD X.prog X.w X.K X.mg X.base j c "__len__" qual st ps F) (hr:Room k X.A) (hx:Passes (bM X.prog X.w) X E)
  (hb:∀(kV doc pm:Value) (an:Option Addr) (cdv ct:Value) (us:List Value),us.length=ps.length->bindArgs (PySem.W.fnOf "__len__" qual (defArgs st) (defBody st) (defScope st) .none kV doc pm an cdv ct) ⟨us,[]⟩=pure (ps.zip us))
  (hjk:j+1≤k:=by decide):CallD X E (.builtin "len") (zM c F):=by
 obtain⟨C,f,fd,mc,G,B,a,n,cl⟩:=T.ex
 have MC:MethC X.prog X.w X.K X.mg X.base j C "__len__" ps (oW X.mg F):=⟨f,fd,G,B.binds hb,B.kp,a,n⟩
 intro pins s σ H vs us Q I rs q
 obtain⟨ρ,M,ds,j,cv,go⟩:=q
 unfold zM at go
 split at go
 ·rename_i k' ns ws
  split at go
  ·rename_i hk
   subst hk
   obtain⟨v,rfl,kv⟩:=cv.one
   cases kv with
   | obj hn m hh hl cs=>
     rw[mc] at m;cases m
     refine uV MC (hr.mono hjk) hx pins s σ H _ us Q I rs ⟨_,_,_,rfl,hh,ρ,M,_,cv,j,go.bind fun ρ1 H1 M1 b d e1 j1 c1 g2=>?_⟩
     unfold lU at g2
     split at g2
     ·split at g2
      ·rename_i hn2
       cases c1
       exact⟨_,rfl,hn2,g2.pure ρ1 H1 _ .refl j1 (.int _)⟩
      ·obtain⟨r,e,_⟩:=g2;cases e
     ·obtain⟨r,e,_⟩:=g2;cases e
  ·obtain⟨r,e,_⟩:=go;cases e
 ·exact call_lenD pins s σ H vs us Q I rs ⟨ρ,M,_,j,cv,go⟩
end L3
namespace L2
open PySem PySem.Spec PyProof.Rows
end L2
namespace L3
open PySem PySem.Spec L2
end L3
namespace L2
open PySem PySem.Spec PyProof.Rows
def Ml(i j k:Nat)(ta:TA):TS:=fun D σ H=>ta σ H fun vs H1=>∃v w z,vs=[v,w,z]∧D.nx (((σ.set i (some v)).set j (some w)).set k (some z)) H1
theorem Hn {kt k2 pt2} (hc:X.calm=true) (hN:X.N.Nodup) (hi:X.N[i]?=some x) (hj:X.N[j]?=some y) (hk:X.N[k]?=some z) (hij:i≠j) (hik:i≠k) (hjk:j≠k)
  (hx:X.env.scope.names.lookup x=some .local) (hy:X.env.scope.names.lookup y=some .local) (hz:X.env.scope.names.lookup z=some .local) (ha:PA X [a,b,c] ta)
  (hw:swappedStores [.Tuple [.Name x px,.Name y py,.Name z pz] kt pt] (.Tuple [a,b,c] k2 pt2) X.env=pure (some [x,y,z]))
  (hs:swapsWithSole [.Tuple [.Name x px,.Name y py,.Name z pz] kt pt] (.Tuple [a,b,c] k2 pt2) pos.line X.env=pure false:=by rfl) :
  PS X (.Assign [.Tuple [.Name x px,.Name y py,.Name z pz] kt pt] (.Tuple [a,b,c] k2 pt2) pos) (Ml i j k ta):=by
 intro pins s σ H D I h
 rw[exec_Assign_arm]
 refine wpAny_bind (wpAny_standAt ?_)
 rw[hs]
 refine wpAny_bind (wpAny_pure ?_)
 rw[if_neg (by decide)]
 refine wpAny_bind (Tuple_ (thn (ha _ pins s σ H _ I h) fun us s1 ⟨vs,H1,I1,r1,q1⟩=>?_))
 obtain⟨v,w,w3,e1,q1⟩:=q1
 subst e1
 obtain ⟨u1,u2,u3,rfl,rv,rw',rz⟩:∃ u1 u2 u3,us=[u1,u2,u3]∧RelV v u1∧RelV w u2∧RelV w3 u3:=by
  cases r1 with
  | cons p q=>
    cases q with
    | cons p' q'=>
      cases q' with
      |cons p2 q2=>
        cases q2
        exact⟨_,_,_,rfl,p,p',p2⟩
 refine wpAny_newObj_type ?_ (by show 3≤sizeLine;decide)
 have I2:Inv X pins σ H1 { s1 with heap:=s1.heap.push { cls:=.type "tuple",data:=.seq [u1,u2,u3].toArray } }:=I1.kept (t':=s1.toks) fun b o e=>Heap.get?_push_of_some _ e
 rw[hw]
 refine wpAny_bind (wpAny_pure ?_)
 show wpAny (model X.prog X.w) X.A (do rule "assign.swapped-stores";let items ←unpackItems (.ref s1.heap.objs.size) 3 none;assignInOrder [fun v=>bindName X.env z v,fun v=>bindName X.env y v,fun v=>bindName X.env x v] items.reverse;pure Flow.next) _ _ _
 refine wpAny_bind (wpAny_rule (wpAny_bind (unpackItems_tuple (items:=#[u1,u2,u3]) (I.ok.hd hc) (IsTup.new s1.heap _) fun h' hx'=>?_)))
 have I3:=I2.kept (h':=h') (t':=s1.toks) fun b o e=>hx' b o (Nat.ne_of_lt (Heap.lt_size e)) e
 show wpAny _ _ (assignInOrder [fun v=>bindName X.env z v,fun v=>bindName X.env y v,fun v=>bindName X.env x v] [u3,u2,u1]>>=fun _=>pure Flow.next) _ _ _
 refine wpAny_bind (assignInOrder_cons (wpAny_bindName (store_ok I3 hN hk (.inl hz) rz (fun s2 I4=>?_) (.inr hz))))
 refine assignInOrder_cons (wpAny_bindName (store_ok I4 hN hj (.inl hy) rw' (fun s3 I5=>?_) (.inr hy)))
 refine assignInOrder_cons (wpAny_bindName (store_ok I5 hN hi (.inl hx) rv (fun s4 I6=>assignInOrder_nil (wpAny_pure ?_)) (.inr hx)))
 have e:((σ.set k (some w3)).set j (some w)).set i (some v)=((σ.set i (some v)).set j (some w)).set k (some w3):=by
  rw[List.set_comm _ _ (Ne.symm hjk),List.set_comm _ _ (Ne.symm hik),List.set_comm _ _ (Ne.symm hij)]
 rw[e] at I6
 exact⟨_,H1,I6,q1⟩
end L2
namespace L3
open PySem PySem.Spec L2
def Ga(i j k:Nat)(fa:ao->DM (List D)):ao->DM Fl:=fun δ=>fa δ>>=fun l=>match l with
 |[v,w,z]=>pure (.nx (((δ.set i (some v)).set j (some w)).set k (some z)))
 |_=>stuck
@[simp] theorem Ot(i j k:Nat)(fa:ao->DM (List D))(δ:ao):Ga i j k fa δ=fa δ>>=fun l=>match l with
 |[v,w,z]=>Pure.pure (.nx (((δ.set i (some v)).set j (some w)).set k (some z)))
 |_=>stuck:=id rfl
theorem GD {kt k2 pt2} (hc:X.calm=true) (hN:X.N.Nodup) (hi:X.N[i]?=some x) (hj:X.N[j]?=some y) (hk:X.N[k]?=some z) (hij:i≠j) (hik:i≠k) (hjk:j≠k)
  (hx:X.env.scope.names.lookup x=some .local) (hy:X.env.scope.names.lookup y=some .local) (hz:X.env.scope.names.lookup z=some .local) (ha:DA X E [a,b,c] fa)
  (hw:swappedStores [.Tuple [.Name x px,.Name y py,.Name z pz] kt pt] (.Tuple [a,b,c] k2 pt2) X.env=pure (some [x,y,z]))
  (hs:swapsWithSole [.Tuple [.Name x px,.Name y py,.Name z pz] kt pt] (.Tuple [a,b,c] k2 pt2) pos.line X.env=pure false:=by rfl) :
  DS X E (.Assign [.Tuple [.Name x px,.Name y py,.Name z pz] kt pt] (.Tuple [a,b,c] k2 pt2) pos) (Ga i j k fa):=⟨PS.mono (Hn hc hN hi hj hk hij hik hjk hx hy hz ha.h.h hw hs) fun D σ H h=>by
 obtain⟨ρ,δ,M,ev,j,g1⟩:=h
 refine⟨ρ,δ,M,ev,j,bL.bind g1 fun ρ1 H1 M1 v d e1 j1 c1 g2=>?_⟩
 cases c1 with
 |nil=>obtain⟨r,e,_⟩:=g2;cases e
 | cons c1 c2=>cases c2 with
   |nil=>obtain⟨r,e,_⟩:=g2;cases e
   | cons c2 c3=>cases c3 with
     |nil=>obtain⟨r,e,_⟩:=g2;cases e
     |cons c3 c4=>cases c4 with
       |nil=>exact⟨_,_,_,rfl,bL.pure (a:=.nx _) g2 ρ1 H1 _ .refl j1 ((((ev.mono e1).set c1).set c2).set c3)⟩
       |cons _ _=>obtain⟨r,e,_⟩:=g2;cases e⟩
end L3
namespace N10
def N8(f s:List Nat):Nat:=(List.zipWith (fun a b=>a-b) f s).sum
def mx(f s:List Nat):Nat:=(List.zipWith max f s).sum
def pl(a b:Nat):Nat×Nat:=(a / Nat.gcd a b,b / Nat.gcd a b)
def LC(x y:Nat):Nat:=x / Nat.gcd x y*y
def Oc(a b:List Nat):List Nat:=a.map fun w=>w*(LC a.sum b.sum / a.sum)
def Od(a b:List Nat):List Nat:=b.map fun w=>w*(LC a.sum b.sum / b.sum)
def ap(a b:List Nat):Nat×Nat:=pl (N8 (Oc a b) (Od a b)) (LC a.sum b.sum)
def Ng(l:List Nat):Nat:=l.foldl Nat.gcd 0
def lst(l:List Nat):List Nat:=l.map (·/ Ng l)
def S:Nat->(Nat->Nat)->Nat
 |0,_=>0
 |n+1,f=>S n f+f n
def up(f:Nat->Nat)(x v:Nat):Nat->Nat:=fun i=>if i=x then v else f i
theorem HR(f:Nat->Nat)(x v:Nat):up f x v x=v:=by simp[up]
theorem Gr(h:i≠x):up f x v i=f i:=by simp[up,h]
theorem uc:∀ {n:Nat},(∀ i,i<n->f i=g i)->S n f=S n g
 |0,_=>rfl
 |n+1,h=>by
   show S n f+f n=S n g+g n
   rw[uc fun i hi=>h i (by lia),h n (by lia)]
theorem H9:∀ {n:Nat},x<n->S n (up f x v) + f x=S n f + v
 | n + 1,h=>by
   show S n (up f x v)+up f x v n+f x=S n f+f n+v
   by_cases e:x=n
   ·subst e
    rw[HR,uc (g:=f) fun i hi=>Gr (by lia)];lia
   ·have:=H9 (f:=f) (v:=v) (n:=n) (x:=x) (by lia)
    rw[Gr (Ne.symm e)];lia
theorem wj:∀ {n:Nat},(∀ i,i<n->f i=0)->S n f=0
 |0,_=>rfl
 |n+1,h=>by
   show S n f+f n=0
   rw[wj fun i hi=>h i (by lia),h n (by lia)]
theorem wg (f:Nat->Nat):∀ n:Nat,((List.range n).map f).sum=S n f
 |0=>rfl
 |n+1=>by
   rw[List.range_succ,List.map_append,List.sum_append,wg f n]
   show S n f+(f n+0)=S n f+f n
   lia
structure G where
 A:Nat->Nat->Nat
 L:Nat->Nat
 W:Nat->Nat
end N10
namespace L3
open PySem PySem.Spec L2
def nM(R:List (List Nat)):D:=.tup (R.map nT)
def ga(l:List Nat)(i:Nat):Nat:=l.getD i 0
def gr(R:List (List Nat))(i:Nat):List Nat:=R.getD i []
theorem sH(h:i<l.length):ga l i∈l:=by
 unfold ga
 rw[List.getD_eq_getElem?_getD,List.getElem?_eq_getElem h]
 exact List.getElem_mem _
theorem gr_mem{R:List (List Nat)}{i:Nat}(h:i<R.length):gr R i∈R:=by
 unfold gr
 rw[List.getD_eq_getElem?_getD,List.getElem?_eq_getElem h]
 exact List.getElem_mem _
theorem Je(h:l.length≤i):ga l i=0:=by
 unfold ga
 rw[List.getD_eq_getElem?_getD,List.getElem?_eq_none h];rfl
theorem jC(h:i<l.length):ga l i=l[i]:=by
 unfold ga
 rw[List.getD_eq_getElem?_getD,List.getElem?_eq_getElem h];rfl
theorem JL(h:nD a=nD b):a=b:=by
 have:=D.int.inj h
 lia
theorem JP(h:nT a=nT b):a=b:=(List.map_inj_right fun _ _=>JL).mp (D.tup.inj h)
theorem JN(h:nM a=nM b):a=b:=(List.map_inj_right fun _ _=>JP).mp (D.tup.inj h)
theorem BZ {α:Type}{ft:ao->DM Bool}{fe:ao->DM D}{rest:ao} (enc:α->D) (p:α->Bool) (e:α->D):∀ (as:List α) (x:Option D) (l:List D),l.length + as.length≤1000000->(∀ a∈as,ft (some (enc a)::rest)=Pure.pure (p a))->(∀ a∈as,p a=true->fe (some (enc a)::rest)=Pure.pure (e a))->
  bN (gN 0) ft (cT fe) (as.map enc) (x::rest) l=Pure.pure (lZ x (as.map enc)::rest,l++(as.filter p).map e)
 |[],x,l,_,_,_=>by simp[bN,lZ]
 | d::ds,x,l,hl,h1,h2=>by
   have b:=h1 d (List.mem_cons_self ..)
   have hl':l.length+(ds.length+1)≤1000000:=by simpa using hl
   have lt:l.length<sizeLine:=by show l.length<2^24;lia
   have ih:=fun l' hl'=>BZ (rest:=rest) enc p e ds (some (enc d)) l' hl' (fun x hx=>h1 x (List.mem_cons_of_mem _ hx)) (fun x hx=>h2 x (List.mem_cons_of_mem _ hx))
   by_cases hp:p d=true
   ·have c:=h2 d (List.mem_cons_self ..) hp
    have q:=ih (l++[e d]) (by simp;lia)
    simp[bN,b,hp,cT,c,lt,q,lZ]
   ·have q:=ih l (by lia)
    simp[bN,b,hp,q,lZ]
theorem bB{α:Type}{ft:ao->DM Bool}{fe:ao->DM D}{x:Option D}{rest:ao}{as:List α}(enc:α->D)(p:α->Bool)(e:α->D)(hl:as.length≤1000000)(h1:∀a∈as,ft (some (enc a)::rest)=Pure.pure (p a))(h2:∀a∈as,p a=true->fe (some (enc a)::rest)=Pure.pure (e a)) :
  dY (bN (gN 0) ft (cT fe) (as.map enc) (x::rest) [])=Pure.pure (lZ x (as.map enc)::rest,(as.filter p).map e):=by
 rw[BZ enc p e as x [] (by simpa using hl) h1 h2];simp
theorem rR{α:Type}{fe:ao->DM D}{x:Option D}{rest:ao}{as:List α}(enc:α->D)(e:α->D)(hl:as.length≤1000000)(h2:∀a∈as,fe (some (enc a)::rest)=Pure.pure (e a)) :
  dY (bN (gN 0) (fun _=>Pure.pure true) (cT fe) (as.map enc) (x::rest) [])=Pure.pure (lZ x (as.map enc)::rest,as.map e):=by
 rw[bB enc (fun _=>true) e hl (fun _ _=>rfl) fun a ha _=>h2 a ha,List.filter_eq_self.mpr (fun _ _=>rfl)]
theorem Ca {α β:Type}{fe:ao->DM D}{rest:ao} (enc:α->D) (enc':β->D) (e:α->β->D):∀ (as:List α) (bs:List β) (x y:Option D) (l:List D),l.length + as.length≤1000000->(∀ a∈as,∀ b∈bs,fe (some (enc a)::some (enc' b)::rest)=Pure.pure (e a b))->
  bN (gT 2 (b7 (gN 0) (b7 (gN 1) gf))) (fun _=>Pure.pure true) (cT fe) (pairs (as.map enc) (bs.map enc')) (x::y::rest) l=Pure.pure (pC x y (as.map enc) (bs.map enc')++rest,l++List.zipWith e as bs)
 |[],bs,x,y,l,_,_=>by simp[bN,pC,pairs]
 |a::as,[],x,y,l,_,_=>by simp[bN,pC,pairs]
 |a::as,b::bs,x,y,l,hl,h=>by
   have c:=h a (by simp) b (by simp)
   have hl':l.length+(as.length+1)≤1000000:=by simpa using hl
   have lt:l.length<sizeLine:=by show l.length<2^24;lia
   have ih:=Ca (rest:=rest) enc enc' e as bs (some (enc a)) (some (enc' b)) (l++[e a b]) (by simp;lia) (fun a ha b hb=>h a (by simp[ha]) b (by simp[hb]))
   simp[bN,pairs,cT,c,lt,ih,pC]
theorem Io{α β:Type}{fe:ao->DM D}{x y:Option D}{rest:ao}{as:List α}{bs:List β}(enc:α->D)(enc':β->D)(e:α->β->D)(hl:as.length≤1000000)(h:∀a∈as,∀b∈bs,fe (some (enc a)::some (enc' b)::rest)=Pure.pure (e a b)) :
  dY (bN (gT 2 (b7 (gN 0) (b7 (gN 1) gf))) (fun _=>Pure.pure true) (cT fe) (pairs (as.map enc) (bs.map enc')) (x::y::rest) [])=Pure.pure (pC x y (as.map enc) (bs.map enc')++rest,List.zipWith e as bs):=by
 rw[Ca enc enc' e as bs x y [] (by simpa using hl) h];simp
theorem xJ(h0:0<b)(h:b<2^1000):(rd (sE (nD a) (nD b)):DM D)=Pure.pure (nD (a / b)):=by
 unfold nD
 rw[Ka (GC (by lia) (by simpa using h)),Int.natCast_ediv]
theorem xM(h:b<2^64):(rd (xf (nD a) (nD b)):DM D)=Pure.pure (nD (a*b)):=by
 unfold nD
 rw[LQ (G8 (by simpa using h)),Int.natCast_mul]
theorem iw(a b:Nat):(rd (cL (nD a) (nD b)):DM D)=Pure.pure (nD (a+b)):=by
 unfold nD
 rw[Ls,Int.natCast_add]
theorem pL(a:Nat):(rd (cL (nD a) (.int 1)):DM D)=Pure.pure (nD (a+1)):=iw a 1
theorem Cu(a:Nat):(rd (cL (.int 1) (nD a)):DM D)=Pure.pure (nD (a+1)):=by
 rw[Nat.add_comm];exact iw 1 a
theorem tR(h:b≤a):(rd (oX (nD a) (nD b)):DM D)=Pure.pure (nD (a-b)):=by
 unfold nD
 rw[Mh]
 have:(a:Int)-(b:Int)=((a-b:Nat):Int):=by lia
 rw[this]
theorem dM(a b:Nat):(rd (cg (nD a) (nD b)):DM D)=Pure.pure (.bl (decide (a=b))):=by
 unfold nD
 rw[Lx]
 have:decide ((a:Int)=(b:Int))=decide (a=b):=by rw[Bool.eq_iff_iff,decide_eq_true_eq,decide_eq_true_eq];lia
 rw[this]
theorem tQ(a b:Nat):(rd (iu (nD a) (nD b)):DM D)=Pure.pure (.bl (!decide (a=b))):=by
 unfold nD
 rw[LR]
 have:decide ((a:Int)=(b:Int))=decide (a=b):=by rw[Bool.eq_iff_iff,decide_eq_true_eq,decide_eq_true_eq];lia
 rw[this]
theorem lD(a b:Nat):(rd (sU (nD a) (nD b)):DM D)=Pure.pure (.bl (decide (a<b))):=by
 unfold nD
 rw[Nu]
 have:decide ((a:Int)<(b:Int))=decide (a<b):=by rw[Bool.eq_iff_iff];simp
 rw[this]
theorem ou(a b:Nat):(rd (vd (nD a) (nD b)):DM D)=Pure.pure (.bl (decide (a≤b))):=by
 unfold nD
 rw[Nt]
 have:decide ((a:Int)≤(b:Int))=decide (a≤b):=by rw[Bool.eq_iff_iff];simp
 rw[this]
theorem tM(a b:Nat):(rd (u9 (nD a) (nD b)):DM D)=Pure.pure (.bl (decide (b<a))):=by
 unfold nD
 rw[Nr]
 have:decide ((b:Int)<(a:Int))=decide (b<a):=by rw[Bool.eq_iff_iff];simp
 rw[this]
theorem Cz(a b:Nat):(rd (BK (nD a) (nD b)):DM D)=Pure.pure (.bl (decide (b≤a))):=by
 unfold nD
 rw[Nq]
 have:decide ((b:Int)≤(a:Int))=decide (b≤a):=by rw[Bool.eq_iff_iff];simp
 rw[this]
theorem gM(h:0<b):(rd (n8 (nD a) (nD b)):DM D)=Pure.pure (nD (a%b)):=Kd h
theorem CK(l:List Nat):(rd (cW [nT l]):DM D)=Pure.pure (nD l.length):=by simp[nT,nD]
theorem lC(R:List (List Nat)):(rd (cW [nM R]):DM D)=Pure.pure (nD R.length):=by simp[nM,nD]
theorem Ly(l:List D):(rd (gh [.tup l,.ty "tuple"]):DM D)=Pure.pure (.bl true):=tO (t := "tuple") (fun _=>rfl) (by decide)
theorem CG(R:List (List Nat)):(rd (gh [nM R,.ty "tuple"]):DM D)=Pure.pure (.bl true):=Ly _
theorem eU(h:n<2^62):qR [nD n]=some (.fix ((List.range n).map nD)):=Kf h
theorem Cy(R:List (List Nat)):Ba (nM R)=some (.fix (R.map nT)):=rfl
theorem Hs(l:List Nat)(R:List (List Nat)):xY [nT l,nM R]=some (.fix (pairs (l.map nD) (R.map nT))):=rfl
theorem pM(h:i<l.length):(rd (bV (nT l) (nD i)):DM D)=Pure.pure (nD (ga l i)):=Lz (by unfold ga;rw[List.getD_eq_getElem?_getD,List.getElem?_eq_getElem h];rfl)
theorem gW{R:List (List Nat)}{i:Nat}(h:i<R.length):(rd (bV (nM R) (nD i)):DM D)=Pure.pure (nT (gr R i)):=Gh (by unfold gr;rw[List.getElem?_map,List.getD_eq_getElem?_getD,List.getElem?_eq_getElem h];rfl)
theorem CJ{R:List (List Nat)}(h:0<R.length):(rd (bV (nM R) (.int 0)):DM D)=Pure.pure (nT (gr R 0)):=gW h
theorem rm:∀ R:List (List Nat),cV (R.map nT)=some (R.map fun l=>PyData.tuple (l.map fun n:Nat=>PyData.int (n:Int)))
 |[]=>rfl
 | l::R=>by
   have e:toPy (nT l)=some (PyData.tuple (l.map fun n:Nat=>PyData.int (n:Int))):=by
    rw[kZ]
    simp only[toPy,mJ,Option.map_some]
    rw[List.map_map]
    rfl
   simp only[List.map_cons,cV,e,rm R]
theorem qz:∀ R:List (List Nat),PyData.depthAll (R.map fun l=>PyData.tuple (l.map fun n:Nat=>PyData.int (n:Int)))≤2
 |[]=>by simp[PyData.depthAll]
 |l::R=>by
   have:=qz R
   have h:=lW (l.map fun n:Nat=>(n:Int))
   rw[List.map_map] at h
   have h':PyData.depthAll (l.map fun n:Nat=>PyData.int (n:Int))≤1:=h
   simp only[List.map_cons,PyData.depthAll,PyData.depth]
   lia
theorem HD {R:List (List Nat)} (h:∀ l∈R,∀ n∈l,n<2 ^ 1000):PyData.showableAll (R.map fun l=>PyData.tuple (l.map fun n:Nat=>PyData.int (n:Int)))=true:=by
 induction R with
 |nil=>rfl
 | cons l R ih=>
   have hl:=CW (l:=l.map fun n:Nat=>(n:Int)) (fun i hi=>by
    obtain⟨n,hn,rfl⟩:=List.mem_map.mp hi
    have:=h l (by simp) n hn
    rw[Int.natAbs_natCast];exact this)
   rw[List.map_map] at hl
   have hl':PyData.showableAll (l.map fun n:Nat=>PyData.int (n:Int))=true:=hl
   simp[PyData.showableAll,PyData.showable,hl',ih fun m hm=>h m (by simp[hm])]
theorem Bc:∀ {R:List (List Nat)},(∀ l∈R,l.length≤c)->f9 (R.map fun l=>PyData.tuple (l.map fun n:Nat=>PyData.int (n:Int)))≤(1923 * c + 100) * R.length
 |[],_=>by simp[f9]
 |l::R,h=>by
   have ih:=Bc (R:=R) fun m hm=>h m (by simp[hm])
   have b:=wA (l.map fun n:Nat=>(n:Int))
   rw[List.map_map,List.length_map] at b
   have b':f9 (l.map fun n:Nat=>PyData.int (n:Int))=1923*l.length:=b
   have hl:=h l (by simp)
   have m:1923*l.length≤1923*c:=Nat.mul_le_mul_left _ hl
   simp only[List.map_cons,f9,dG,b',List.length_cons]
   rw[Nat.mul_add]
   lia
theorem Bu (a b:List (List Nat)) (ha:a.length≤1000000):(rd (iu (nM a) (nM b)):DM D)=Pure.pure (.bl (!decide (a=b))):=bJ fun M=>by
 have d:=qz a
 have key:∀ a b:List (List Nat),PyData.eqvAll (a.map fun l=>PyData.tuple (l.map fun n:Nat=>PyData.int (n:Int))) (b.map fun l=>PyData.tuple (l.map fun n:Nat=>PyData.int (n:Int)))=decide (a=b):=by
  intro a
  induction a with
  |nil=>intro b;cases b<;>simp[PyData.eqvAll]
  | cons x a ih=>
    intro b
    cases b with
    |nil=>simp[PyData.eqvAll]
    | cons y b=>
      have e:=nZ (x.map fun n:Nat=>(n:Int)) (y.map fun n:Nat=>(n:Int))
      rw[List.map_map,List.map_map] at e
      have e':PyData.eqvAll (x.map fun n:Nat=>PyData.int (n:Int)) (y.map fun n:Nat=>PyData.int (n:Int))=decide (x=y):=by
       refine Eq.trans e ?_
       rw[Bool.eq_iff_iff,decide_eq_true_eq,decide_eq_true_eq]
       exact qu
      simp only[List.map_cons,PyData.eqvAll,PyData.eqv,e',ih b]
      by_cases h:x=y<;>by_cases h2:a=b<;>simp[h,h2]
 have lay:∀ a:List (List Nat),PyData.canLayAll0 (a.map fun l=>PyData.tuple (l.map fun n:Nat=>PyData.int (n:Int)))=true:=by
  intro a
  induction a with
  |nil=>rfl
  |cons x a ih=>
    have e:=lay_ints (x.map fun n:Nat=>(n:Int))
    rw[List.map_map] at e
    have e':PyData.canLayAll0 (x.map fun n:Nat=>PyData.int (n:Int))=true:=e
    simp[PyData.canLayAll0,PyData.canLay0,e',ih]
 unfold nM
 simp only[iu,L3.eqB,eqP,toPy,rm,Option.map_some,PyData.canLay0,lay,PyData.depth,PyData.eqv,key]
 simp
 lia
end L3
namespace LS
open PySem PySem.Spec PyProof.Rows PyProof
end LS
namespace L2
open PySem PySem.Spec PyProof.Rows
variable{X:Cx}{pos:Pos}
end L2
namespace L3
open PySem PySem.Spec PyProof.Rows L2
variable{X:Cx}{E:XK}{pos:Pos}
def gL(n:Nat)(fs:List D->ao->DM ao):D->ao->DM ao
 |.lst l,δ=>if l.length=n then fs l δ else stuck
 |_,_=>stuck
@[simp] theorem Ph(n:Nat)(fs:List D->ao->DM ao)(l:List D)(δ:ao):gL n fs (.lst l) δ=if l.length=n then fs l δ else stuck:=id rfl
theorem fO{X:Cx}{E:XK}{st:Stmt}:DS X E st (fun _=>stuck):=⟨by
 intro pins s σ H D I h
 obtain⟨ρ,δ,M,ev,j,g1⟩:=h
 obtain⟨r,e,_⟩:=g1
 cases e⟩
end L3
namespace L3
open PySem PySem.Spec L2
abbrev Mg:=Str->Option Value
abbrev Fn:=List D->DM D
abbrev Nn(mg:Mg)(x:Str):Prop:=mg x=none
abbrev Gi(mg:Mg)(x:Str)(i:Int)(t:Tok):Prop:=mg x=some (.int i t)
abbrev Gc(mg:Mg)(x:Str)(C:Addr):Prop:=mg x=some (.ref C)
abbrev Rm(k:Nat)(A:Around)(q:Str)(st:Stmt)(s:Shared)(f:Addr)(cdv:Value):Prop:=Room k (A.deeper (PyProof.Rows.envOfC q (defScope st) s.heap.objs.size f cdv))
abbrev Ds(P:Program)(w:World)(K:PySem.W.Frag)(mg:Mg)(base:Heap)(N:List Str)(q:Str)(st:Stmt)(f:Addr)(cdv:Value)(A:Around)(outer:List Env)(s:Shared)(H:Hp)(E:XK)(b:ao->DM Fl):Prop:=
 DSs (bO P w K mg base N q (defScope st) f cdv A outer s H E) E (defBody st) b
theorem tW(a:sc.kind=.function)(b:sc.isCoroutine=false)(c:sc.isGenerator=false)(p:N.take P.length=P)(d:(decide N.Nodup&&(decide (∀x∈P,sc.names.lookup x=some .local∨sc.names.lookup x=some .cell)&&decide (∀y∈sc.names,y.2≠.free)))=true):FnScope N P sc:=by
 simp only[Bool.and_eq_true,decide_eq_true_eq] at d
 exact⟨a,b,c,d.1,p,d.2.1,d.2.2⟩
theorem u1(h:n+64<cLine):n+1<cLine:=by lia
end L3
namespace L3
open PySem L2
end L3
namespace L3
open PySem PySem.Spec L2 LB
end L3
namespace L3
open PySem L2
end L3
namespace L3
open PySem PySem.Spec L2 LA LB
open PyProof.Rows hiding St
end L3
namespace L3
open PySem PySem.Spec L2 LA LB LS
open PyProof.Rows hiding St
end L3
namespace L2
open PySem PySem.Spec PyProof.Rows LS LA LB
end L2
namespace L3
open PySem PySem.Spec L2 LA LB
end L3
namespace L3
open PySem PySem.Spec L2
open PyProof.Rows hiding St
end L3
namespace L3
open PySem PySem.Spec PyProof.Rows L2
abbrev TB(K:PySem.W.Frag)(x:Str):Prop:=PySem.W.nsIn K mainGlobals x=some none
def TD(K:PySem.W.Frag)(x:Str)(st:Stmt):Prop:=∀{h:Heap}{mg:Mg},K.In h->h.Ns mainGlobals mg->DefAt K mg x st
section
variable{K:PySem.W.Frag}{x:Str}{st:Stmt}{f:Addr}{oc:Value}{od an:Option Addr}{osl:Array (Option Value)}{kV doc pm cdv ct:Value}
theorem Mm(a:PySem.W.nsIn K mainGlobals x=some (some (.ref f)))(l:K.lookup f=some ⟨oc,od,.func (PySem.W.fnOf x x (defArgs st) (defBody st) (defScope st) .none kV doc pm an cdv ct),osl⟩)(c:PySem.W.codeIn K cdv x=true)(k:PySem.W.keepIn K (.ref f)=true):TD K x st:=
 fun X G=>Eg X G a l c k
end
section
variable{P:Program}{w:World}{K:PySem.W.Frag}{mg:Mg}{base:Heap}{k:Nat}{C:Addr}{c x qual:Str}{N ps:List Str}{st:Stmt}{fb:ao->DM Fl}{is:List Int}
theorem okd(T:DefAt K mg x st)(S:FnScope N ps (defScope st))(hbody:∀{f cdv A outer s H E},Rm k A x st s f cdv->Ds P w K mg base N x st f cdv A outer s H E fb)
  (hb:∀(kV doc pm:Value) (an:Option Addr) (cdv ct:Value) (us:List Value),us.length=ps.length->bindArgs (PySem.W.fnOf x x (defArgs st) (defBody st) (defScope st) .none kV doc pm an cdv ct) ⟨us,[]⟩=pure (ps.zip us):=by intro _ _ _ _ _ _ us hl;first | (obtain⟨_,rfl⟩:=fQ hl;rfl) | (obtain⟨_,_,rfl⟩:=uw hl;rfl) | (obtain⟨_,_,_,rfl⟩:=qL hl;rfl) | (obtain⟨_,_,_,_,rfl⟩:=El hl;rfl)) :
  DefD P w K mg base (k+1) x ps (aK ps.length N.length fb):=L3.DefAt.okD T S hb fun _ _ _ _ _ _ _=>hbody
theorem jo(T:MethAt K C x qual st)(m:mg c=some (.ref C))(cl:L2.Cls K C)(S:FnScope N ps (defScope st))(hbody:∀{f cdv A outer s H E},Rm k A qual st s f cdv->Ds P w K mg base N qual st f cdv A outer s H E fb):MethD P w K mg base (k+1) c x qual st ps (aK ps.length N.length fb):=L3.MethAt.okD T m cl S fun _ _ _ _ _ _ _=>hbody
end
end L3
namespace LA
open PySem PySem.W PySem.Calls LS PyProof.Rows LB
end LA
namespace L2
open PySem PySem.Spec PyProof.Rows LS LA LB
end L2
namespace L3
open PySem PySem.Spec L2 LA LB LS
open PyProof.Rows hiding St
end L3
namespace L3
open PySem PySem.Spec L2
open PyProof.Rows hiding St
end L3
namespace L3
open PySem PySem.Spec L2 LB
end L3
namespace L3
open PySem PySem.Spec L2
open PyProof.Rows hiding St
section
variable{X:Cx}{E:XK}{a:Expr}{fa:ao->DM D}{fs:ao->DM (List D)}{pos p1 p2 p3 p4:Pos}
def nb(b:Bool):Int:=if b=true then 1 else 0
end
end L3
namespace L2
open PySem PySem.Spec PyProof.Rows LS
end L2
namespace L3
open PySem PySem.Spec L2
structure OwnK(K:PySem.W.Frag)(C:Addr):Prop where
 ne:PySem.W.findIn K (.ref C) "__ne__"=some (some (.builtin "object.__ne__"))
 mro:PySem.W.mroIn K C (.type "object")=some true
 cc:PySem.W.findIn K (.ref C) "__class__"=some (some (.builtin "object.__class__"))
 gs:PySem.W.specialIn K (.builtin "object.__class__") "__get__"=some (some (.builtin "getset_descriptor.__get__"))
 tk:PySem.W.takesIn K (.builtin "object.__class__")=some true
 ci:((PySem.W.clsIn K C).isSome&&PySem.W.typeIn K (.ref C)==some (.type "type"))=true
 cls:L2.Cls K C
structure OwnC(K:PySem.W.Frag)(mg:Str->Option Value)(c:Str):Prop where
 ex:∃C,mg c=some (.ref C)∧OwnK K C
theorem De:∀t∈tys,PySem.W.subIn K (.type t) (.ref C)=some false:=by
 intro t ht
 simp only[tys,List.mem_cons,List.mem_nil_iff,or_false] at ht
 rcases ht with rfl | rfl | rfl | rfl | rfl | rfl | rfl<;>rfl
theorem OwnK.kit(h:OwnK K C):∀t∈tys,PySem.W.kitOne K (.type t) (.ref C)=some false:=by
 intro t ht
 unfold PySem.W.kitOne
 rw[if_neg (by simp)]
 unfold PySem.W.kitCls
 dsimp only
 rw[if_pos h.ci]
 exact De t ht
def oA(c:Str):D->Mo->Bool
 |.obj k _ _,_=>k==c
 |d,M=>(tyOf d M).isSome
def DQ:D->DM D
 |.bl b=>pure (.bl b)
 |_=>stuck
def wB:D->DM D
 |.str x=>pure (.str x)
 |_=>stuck
def dm{α:Type}(p:Mo->Bool)(m:DM α):DM α:=fun M=>if p M=true then m M else none
theorem Go.when(g:Go mg E rel Q ρ H (dm p m) M):p M=true∧Go mg E rel Q ρ H m M:=by
 obtain⟨r,e,q⟩:=g
 unfold dm at e
 split at e
 ·exact⟨‹_›,r,e,q⟩
 ·cases e
theorem Ko {X:Cx}{ρ:Rh}{H:Hp}{M:Mo}{c:Str}{C:Addr}{y:V}{d:D} (mc:X.mg c=some (.ref C)) (j:J X.mg ρ M H) (cy:Cv X.mg ρ H y d) (h:oA c d M=true):zf X.K H C y:=by
 cases d with
 | obj k ns vs=>
   have hk:k=c:=by simpa[oA] using h
   subst hk
   cases cy with
   |obj hn m hh hl cs=>
     rw[mc] at m;cases m
     exact .inl ⟨_,_,_,rfl,hh⟩
 |_=>
   have h':=h
   simp only[oA] at h'
   obtain⟨t,ht⟩:=Option.isSome_iff_exists.mp h'
   exact .inr ⟨t,Ag j cy ht,De t (rA ht)⟩
section
variable{X:Cx}{E:XK}{j k:Nat}{c qual:Str}{st:Stmt}{ps:List Str}{F:List D->DM D}
def O9(c:Str)(F:List D->DM D):List D->DM D
 |[.obj k ns vs]=>if k=c then F [.obj k ns vs]>>=wB else stuck
 |l=>rd (pN l)
def Jb(c:Str)(F:List D->DM D):D->D->DM D
 |.obj k ns vs,y=>if k=c then dm (oA c y) (F [.obj k ns vs,y]>>=DQ) else stuck
 |x,y=>rd (cg x y)
theorem JW (T:MethD X.prog X.w X.K X.mg X.base j c "__eq__" qual st ps F) (hr:Room k X.A) (hx:Passes (bM X.prog X.w) X E)
  (hb:∀(kV doc pm:Value) (an:Option Addr) (cdv ct:Value) (us:List Value),us.length=ps.length->bindArgs (PySem.W.fnOf "__eq__" qual (defArgs st) (defBody st) (defScope st) .none kV doc pm an cdv ct) ⟨us,[]⟩=pure (ps.zip us))
  (hjk:j+1≤k:=by decide):bW X E (compareOp .Eq) (Jb c F):=by
 obtain⟨C,f,fd,mc,G,B,a,n,cl⟩:=T.ex
 have MC:MethC X.prog X.w X.K X.mg X.base j C "__eq__" ps (oW X.mg F):=⟨f,fd,G,B.binds hb,B.kp,a,n⟩
 intro pins s σ H x y v u Q I rx ry q
 obtain⟨ρ,M,dx,dy,j,cx,cy,go⟩:=q
 unfold Jb at go
 split at go
 ·rename_i k' ns ws
  split at go
  ·rename_i hk
   subst hk
   cases cx with
   | obj hn m hh hl cs=>
     rw[mc] at m;cases m
     obtain⟨hg,go⟩:=go.when
     refine JV MC hr.units (hr.mono (by lia)) hx pins s σ H _ _ v u Q I rx ry ⟨_,_,_,rfl,hh,Ko mc j cy hg,ρ,M,_,.cons (.obj hn mc hh hl cs) (.cons cy .nil),j,go.bind fun ρ1 H1 M1 b d e1 j1 c1 g2=>?_⟩
     unfold DQ at g2
     split at g2
     ·cases c1
      exact⟨_,rfl,g2.pure ρ1 H1 _ .refl j1 (.bl _)⟩
     ·obtain⟨r,e,_⟩:=g2;cases e
  ·obtain⟨r,e,_⟩:=go;cases e
 ·exact bf hr.units pins s σ H x y v u Q I rx ry ⟨ρ,M,_,_,j,cx,cy,go⟩
def qJ(c:Str):List D->Mo->Option D
 |[d,.cls c'],M=>if c'=c then (if oA c d M=true then some (.bl (match d with | .obj _ _ _=>true | _=>false)) else none) else none
 |l,M=>gh l M
theorem nR (O:OwnC X.K X.mg c):CallD X E (.builtin "isinstance") (fun l=>rd (qJ c l)):=by
 obtain⟨C,mc,ok⟩:=O.ex
 intro pins s σ H vs us Q I rs q
 obtain⟨ρ,M,ds,j,cv,go⟩:=q
 by_cases hd:∃d c',ds=[d,.cls c']
 ·obtain ⟨d,c',rfl⟩:=hd
  obtain⟨r,e,p⟩:=go.rd
  simp only[qJ] at e
  split at e
  ·rename_i hc
   subst hc
   split at e
   ·rename_i hg
    cases e
    obtain⟨v,w,rfl,k1,k2⟩:=cv.two
    cases k2 with
    | cls h=>
      rw[mc] at h;cases h
      refine Bh (by unfold PySem.W.kitOne;rw[if_pos (by simp)]) ok.cc ok.gs ok.tk ok.mro ok.cls pins s σ H _ us Q I rs ⟨_,rfl,?_⟩
      cases d with
      | obj k' ns ws=>
        have hk:k'=c':=by simpa[oA] using hg
        subst hk
        cases k1 with
        |obj hn m hh hl cs=>
          rw[mc] at m;cases m
          exact .inl ⟨_,_,_,rfl,hh,p ρ H _ .refl j (.bl _)⟩
      |_=>
        simp only[oA] at hg
        obtain⟨t,ht⟩:=Option.isSome_iff_exists.mp hg
        exact .inr ⟨t,Ag j k1 ht,ok.kit t (rA ht),p ρ H _ .refl j (.bl _)⟩
   ·cases e
  ·cases e
 ·have e:(rd (qJ c ds):DM D)=rd (gh ds):=by
   congr 1
   funext M
   unfold qJ
   split
   ·exact absurd ⟨_,_,rfl⟩ hd
   ·rfl
  have go':Go X.mg E _ _ ρ H (rd (qJ c ds)) M:=go
  rw[e] at go'
  exact cX pins s σ H vs us Q I rs ⟨ρ,M,_,j,cv,go'⟩
end
end L3
namespace L3
open PySem PySem.Spec L2 PyProof.Rows
end L3
namespace L3
open PySem PySem.Spec L2
open PyProof.Rows hiding St
structure ThD(P:Program)(w:World)(K:PySem.W.Frag)(mg:Str->Option Value)(base:Heap)(k:Nat)(outer:List Env)(s:Shared)(H:Hp)(ρ:Rh)(g:Addr)(th:DM D):Prop where
 fn:∀(s2:Shared) (H2:Hp),Un (frs outer) [] H H2 s.heap s2.heap->HOk P w H2 s2.heap->PySem.W.FnAt g s2.heap
 run:∀(A2:Around) (outer2:List Env) (s2:Shared) (H2:Hp) (ρ2:Rh) (M2:Mo) (Q:VK) (E:XK),Room k A2->Env0 P w K mg base A2 outer2 s2 H2->Un (frs outer) [] H H2 s.heap s2.heap->Ext ρ H ρ2 H2->J mg ρ2 M2 H2->
  Go mg E (Cv mg) Q ρ2 H2 th M2->codeAny (model P w) A2 (.call (.ref g) ⟨[],[]⟩) (CR (bM P w) outer2 P w H2 s2 Q E) s2
def HY(i:Nat)(g:Addr)(ρ₀:Rh)(H₀:Hp):L2.St->Rh->Hp->Prop:=fun σ ρ H=>σ[i]?=some (some (.ref g))∧Ext ρ₀ H₀ ρ H
abbrev AT:=L2.St->Rh->Hp->Prop
def tA(An:AT)(mg:Str->Option Value)(E:XK)(f:ao->DM D):TE:=fun σ H Q=>∃ρ δ M,An σ ρ H∧Ev mg ρ H σ δ∧J mg ρ M H∧Go mg E (Cv mg) Q ρ H (f δ) M
def Gk(An:AT)(mg:Str->Option Value)(E:XK)(f:ao->DM Fl):TS:=fun D σ H=>∃ρ δ M,An σ ρ H∧Ev mg ρ H σ δ∧J mg ρ M H∧bL mg E D ρ H (f δ) M
structure AE(X:Cx)(E:XK)(An:AT)(e:Expr)(f:ao->DM D):Prop where
 h:PE X e (tA An X.mg E f)
structure AS(X:Cx)(E:XK)(An:AT)(st:Stmt)(f:ao->DM Fl):Prop where
 h:PS X st (Gk An X.mg E f)
structure ASs(X:Cx)(E:XK)(An:AT)(st:List Stmt)(f:ao->DM Fl):Prop where
 h:PSs X st (Gk An X.mg E f)
section
variable{X:Cx}{E:XK}{An:AT}{e:Expr}{fe:ao->DM D}{pos:Pos}{st:Stmt}{rest:List Stmt}{f g:ao->DM Fl}
theorem Dr {k i:Nat}{y:Str}{p:Pos}{g:Addr}{th:DM D}{ρ₀:Rh} (hr:Room k X.A) (hx:Passes (bM X.prog X.w) X E) (hT:ThD X.prog X.w X.K X.mg X.base k X.outer X.s₀ X.H₀ ρ₀ g th) (hex:X.ex=[]:=by rfl) (hN:X.N[i]?=some y:=by rfl)
  (hv:Vis X.env.scope y:=by exact Or.inl rfl) (hd:(y==("__debug__":Str))=false:=by decide) (hcd:(y==("__classdict__":Str))=false:=by decide) :
  AE X E (HY i g ρ₀ X.H₀) (.Call (.Name y p) [] [] pos) (fun _=>th):=⟨by
 intro pins s σ H Q I h
 obtain⟨ρ,δ,M,⟨hσ,ex⟩,ev,j,go⟩:=h
 refine wpAny_Call_Name_kw ?_
 refine thn (pe_var hN hv hd hcd pins s σ H (fun v H1=>v=.ref g∧H1=H) I ⟨.ref g,hσ,rfl,rfl⟩) fun u s1 h1=>?_
 obtain⟨v,H1,I1,r,rfl,rfl⟩:=h1
 obtain rfl:u=Value.ref g:=r
 have un:Un (frs X.outer) [] X.H₀ H1 X.s₀.heap s1.heap:=by have:=I1.base;rw[hex] at this;exact this
 refine PySem.W.callWith_F0 (hT.fn s1 H1 un I1.hok) ?_
 refine wpAny_call (codeAny_mono (hT.run X.A X.stack s1 H1 ρ M Q E hr I1.env0 un ex j go) fun r s' hq=>?_)
 cases r with
 |error e=>exact hx pins σ H1 s1 e s' I1 hq
 |ok fl=>
   cases fl with
   |ret u=>exact I1.after hq
   |next=>exact False.elim hq
   |brk=>exact False.elim hq
   |cont=>exact False.elim hq⟩
theorem Ig(he:AE X E An e fe):AS X E An (.Return (some e) pos) (fun δ=>fe δ>>=fun d=>pure (.rt d)):=⟨PS.mono (L2.ps_ret he.h) fun D σ H h=>by
 obtain⟨ρ,δ,M,an,ev,j,g1⟩:=h
 exact⟨ρ,δ,M,an,ev,j,g1.bind fun ρ1 H1 M1 v d e1 j1 c1 g2=>g2.pure ρ1 H1 v .refl j1 c1⟩⟩
theorem yD(h:AS X E An st f):ASs X E An [st] f:=⟨pss_one h.h⟩
end
theorem Ih (nl:Nat) {ns:List Str}{fb:ao->DM Fl}{fh:Str->ao->DM Fl}{fy:Addr->Str->ao->DM Fl}{i:Nat}{body suite:List Stmt} (T:XTab X.K X.mg ns F) (hcalm:X.calm=true) (hcells:X.env.cells=[]) (hex:X.ex=[])
  (hst:X.stack=X.env::X.outer) (hfr:X.env.frame=some X.env.locals) (hN:X.N.Nodup) (hi:X.N[i]?=some n) (hk:X.env.kindOf n=some .local) (hm:X.mg x=some (.ref F))
  (hb:∀pins Eh,ASs (X.tryC pins Eh) Eh An body fb) (hs:∀c C y oe,c∈ns->X.mg c=some (.ref C)->oe.cls=.ref C->XAt X.K C->DSs (X.sui y oe) E0 (b₀::suite) (fy y c))
  (hy:∀y c M r,fh c ((List.replicate nl none).set i (some (.exn 0))) M=some r->fy y c ((List.replicate nl none).set i (some (.exn y))) M=some r)
  (hnl:X.N.length=nl:=by rfl) (hg:Gl X x:=by rfl) (hd:(x==("__debug__":Str))=false:=by decide) :
  AS X E An (.Try body [.ExceptHandler (some (.Name x np)) (some n) (b₀::suite) p1] [] [] pos) (oY ns nl i fb fh):=⟨by
 subst hnl
 intro pins s σ H D I h
 obtain⟨ρ,δ,M,an,ev,j,g1⟩:=h
 let Eh:XK:=fun C' o H'=>∃c C ρ' M' r,c∈ns∧C'=.ref C∧o=none∧X.mg c=some (.ref C)∧J X.mg ρ' M' H'∧(dY (fh c ((List.replicate X.N.length none).set i (some (.exn 0))))>>=Ew i) M'=some r∧o7 X.mg ρ' H' D E r
 have key:Gk An X.mg Eh fb D σ H:=by
  obtain⟨r,e,p⟩:=g1
  unfold oY at e
  split at e
  ·rename_i c M' em
   split at e
   rotate_left
   ·cases e
   rename_i hc
   refine⟨ρ,δ,M,an,ev,j,_,em,fun ρ' H' C x' j' m=>⟨c,C,ρ',M',r,List.contains_iff_mem.mp hc,rfl,rfl,m,j',e,p.mono x'⟩⟩
  ·rename_i em
   refine⟨ρ,δ,M,an,ev,j,r,e,?_⟩
   obtain⟨r,M'⟩:=r
   cases r with
   |ok a=>cases a<;>exact p
   |exc c=>exact absurd e (em c M')
 refine L2.J6 (Eh:=Eh) (tb:=Gk An X.mg Eh fb) (th:=fun y oe D σ H=>∃c C,c∈ns∧X.mg c=some (.ref C)∧oe.cls=.ref C∧XAt X.K C∧tS X.mg E0 (fy y c) D σ H) hcalm hcells hex hst hfr hN hi hk hm (fun pins=>(hb pins Eh).h) (fun y oe pins' s' σ' H' D' I' q=>?_) hg hd pins s σ H D I ⟨key,?_⟩
 ·obtain⟨c,C,hc,m,ho,xa,q⟩:=q
  exact (hs c C y oe hc m ho xa).h pins' s' σ' H' D' I' q
 ·rintro y oe C' H1 hcl _ ⟨c,C,ρ',M',r,hc,rfl,_,m,j',e,p⟩
  obtain⟨C2,xc,xa,ca⟩:=T.cls c hc
  have:C2=C:=by have:=xc.at_;rw[m] at this;cases this;rfl
  subst this
  refine⟨⟨C2,rfl,ca⟩,c,C2,hc,m,hcl,xa,ρ',(List.replicate X.N.length none).set i (some (.exn y)),M',?_,j',?_⟩
  ·refine ⟨by simp,fun k d q=>?_⟩
   by_cases hk':k=i
   ·subst hk'
    have hl:k<(List.replicate X.N.length (none:Option L3.D)).length:=by
     have:=(List.getElem?_eq_some_iff.mp q).1
     rw[List.length_set] at this;exact this
    rw[List.getElem?_set_self hl] at q
    cases q
    refine⟨.ref y,List.getElem?_set_self ?_,.exn y⟩
    rw[List.length_replicate] at hl ⊢;exact hl
   ·rw[List.getElem?_set_ne (fun z=>hk' z.symm),List.getElem?_replicate] at q
    split at q<;>cases q
  ·have e:DM.bind _ _ M'=some r:=e
   unfold DM.bind at e
   split at e
   ·cases e
   ·rename_i em
    obtain⟨_,_,_,z⟩:=sX em
    cases z
   ·rename_i a M'' em0
    obtain⟨a',M3,em,z⟩:=sX em0
    cases z
    refine⟨_,hy y c _ _ em,?_⟩
    cases a with
    |nx δ2=>cases e;exact fun ρ2 H2 σ2 a1 a2 a3=>p ρ2 H2 (σ2.set i none) a1 a2 a3.forget
    |bk δ2=>cases e;exact fun ρ2 H2 σ2 a1 a2 a3=>p ρ2 H2 (σ2.set i none) a1 a2 a3.forget
    |ct δ2=>cases e;exact fun ρ2 H2 σ2 a1 a2 a3=>p ρ2 H2 (σ2.set i none) a1 a2 a3.forget
    |rt d=>cases e;exact fun ρ2 H2 v a1 a2 a3=>p ρ2 H2 v a1 a2 a3⟩
structure HrdD(P:Program)(w:World)(K:PySem.W.Frag)(mg:Str->Option Value)(base:Heap)(k:Nat)(x:Str)(Fh:DM D->DM D):Prop where
 ex:∃f,mg x=some (.ref f)∧PySem.W.keepIn K (.ref f)=true∧∀(A:Around) (outer:List Env) (s:Shared) (H:Hp) (ρ:Rh) (M:Mo) (g:Addr) (th:DM D) (Q:VK) (E:XK),Room (k+1) A->Env0 P w K mg base A outer s H->
  ThD P w K mg base k outer s H ρ g th->J mg ρ M H->Go mg E (Cv mg) Q ρ H (Fh th) M->codeAny (model P w) A (.call (.ref f) ⟨[.ref g],[]⟩) (CR (bM P w) outer P w H s Q E) s
def vz(n:Nat)(fb:DM D->ao->DM Fl)(th:DM D):DM D:=fb th (List.replicate n none)>>=fun r=>match r with
 |.nx _=>pure .non
 |.rt d=>pure d
 |_=>stuck
section
variable{P:Program}{w:World}{K:PySem.W.Frag}{mg:Str->Option Value}{base:Heap}{k:Nat}{x y:Str}{N:List Str}{st:Stmt}
theorem Og (T:DefAt K mg x st) (S:FnScope N [y] (defScope st))
  (hbody:∀{f cdv A outer s H E ρ g th},Room k (A.deeper (envOfC x (defScope st) s.heap.objs.size f cdv))->ThD P w K mg base k outer s H ρ g th->
    ASs (bO P w K mg base N x (defScope st) f cdv A outer s H E) E (HY 0 g ρ H) (defBody st) (fb th))
  (hb:∀(kV doc pm:Value) (an:Option Addr) (cdv ct u:Value),bindArgs (PySem.W.fnOf x x (defArgs st) (defBody st) (defScope st) .none kV doc pm an cdv ct) ⟨[u],[]⟩=pure ([y].zip [u]):=by intros;rfl):HrdD P w K mg base k x (vz N.length fb):=by
 obtain⟨f,fd,F,m⟩:=T.ex
 refine⟨f,m,F.kp,fun A outer s H ρ M g th Q E hr e0 hth j go=>?_⟩
 have hN:1≤N.length:=by have:=congrArg List.length S.pre;rw[List.length_take] at this;simp at this;lia
 refine Hw (us:=[.ref g]) (vs:=[.ref g]) F S e0 hr (fun _ _ _ _ _ _=>hb _ _ _ _ _ _ _) rfl (.cons rfl .nil) fun cdv hr'=>⟨_,(hbody hr' hth).h,ρ,List.replicate N.length none,M,⟨rfl,.refl⟩,⟨?_,fun i d q=>?_⟩,j,?_⟩
 ·unfold L2.start;simp;lia
 ·rw[List.getElem?_replicate] at q
  split at q<;>cases q
 ·obtain⟨r,e,p⟩:=go
  have e:DM.bind _ _ M=some r:=e
  unfold DM.bind at e
  split at e
  ·cases e
  ·rename_i c M' em
   cases e
   exact⟨_,em,p⟩
  ·rename_i a M' em
   refine⟨_,em,?_⟩
   cases a with
   |nx δ'=>cases e;exact fun ρ1 H1 b x j c=>p ρ1 H1 .non x j .non
   |rt d=>cases e;exact fun ρ1 H1 b x j c=>p ρ1 H1 b x j c
   |bk δ'=>cases e
   |ct δ'=>cases e
end
structure LamC(X:Cx)(scope:Scope)(cl:List (Str×Addr))(js:List Nat)(fr:List Str):Prop where
 ok:LamOk scope cl fr
 clos:closureFor scope X.env=pure cl
 sub:∀y c,cl.lookup y=some c->X.env.cells.lookup y=some c
 len:js.length=fr.length
 fre:∀(k j:Nat) (y:Str),js[k]?=some j->fr[k]?=some y->X.N[j]?=some y∧X.env.scope.names.lookup y=some .cell∧∃c,cl.lookup y=some c
theorem DK {X:Cx}{scope:Scope}{cl:List (Str×Addr)}{js:List Nat}{fr:List Str}{pins:List (Addr×Obj)}{σ:L2.St}{H H2:Hp}{s s2:Shared} (T:LamC X scope cl js fr) (hfn:∀ x,X.fn x=true) (I:Inv X pins σ H s) (un:Un (frs X.stack) [] H H2 s.heap s2.heap):CellsAt cl fr (pick js σ) H2 s2.heap:=by
 have out:∀y c,cl.lookup y=some c->c∉frs X.stack:=fun y c e hm=>by
  rcases List.mem_cons.mp (I.stkSub c hm) with z | z
  ·exact I.cne y c (T.sub _ _ e) z
  ·obtain⟨_,o,ho,_⟩:=I.ok.funs.mem z
   exact absurd (Heap.lt_size ho) (Nat.not_lt.mpr (I.ok.cab y c (hfn y) (T.sub _ _ e)))
 have kp:∀y c v,cl.lookup y=some c->s.heap.IsCell c v->s2.heap.IsCell c v:=fun y c v e ⟨o,ho,hd⟩=>⟨o,un.keep c o ho (I.freeC y c (T.sub _ _ e)) (out y c e) (by simp),hd⟩
 refine⟨fun x y c h1 h2=>I.ok.inj x y c (T.sub _ _ h1) (T.sub _ _ h2),fun x c e=>?_,fun x c e=>?_,fun i x v h1 h2=>?_,?_⟩
 ·obtain⟨v,z⟩:=I.cell x c (T.sub _ _ e)
  exact⟨v,kp x c v e z⟩
 ·obtain⟨v,o,ho,_⟩:=I.cell x c (T.sub _ _ e)
  exact un.free c o ho (I.freeC x c (T.sub _ _ e)) (by simp)
 ·unfold pick at h2
  rw[List.getElem?_map] at h2
  cases hj:js[i]? with
  |none=>rw[hj] at h2;cases h2
  | some j=>
    rw[hj] at h2
    have h2s:(σ[j]?).getD none=some v:=Option.some.inj h2
    have h2':σ[j]?=some (some v):=by
     cases z:σ[j]? with
     |none=>rw[z] at h2s;cases h2s
     |some w=>rw[z] at h2s;exact congrArg some h2s
    obtain⟨g1,g2,c,g3⟩:=T.fre i j x hj h1
    obtain⟨mX,_,hl⟩:=I.loc
    obtain⟨u,r,q⟩:=hl j x v g1 h2' (.inr (.inl g2))
    refine⟨u,c,r,g3,kp x c _ g3 ?_⟩
    rcases q with ⟨q,_⟩ | ⟨_,c2,e2,z⟩
    ·have:X.env.scope.names.lookup x=some .local:=q
     rw[g2] at this;cases this
    ·rw[T.sub _ _ g3] at e2;cases e2
     exact z
 ·unfold pick;rw[List.length_map];exact T.len
theorem Iu (js:List Nat) (fr:List Str) (Hd:HrdD X.prog X.w X.K X.mg X.base (k + 1) fx Fh) (hr:Room j X.A) (hx:Passes (bM X.prog X.w) X E)
  (T:TabD X.mg X.base c P) (hcd:X.env.code=.ref c) (hP:∃ps,X.H₀ P=some (.tbl ps))
  (hbody:∀{qual g cd A outer s H E},Room k (A.deeper (PySem.W.envX qual scope s.heap.objs.size g cd cl))->DE (m5 X.prog X.w X.K X.mg X.base fr qual scope g cd cl A outer s H E) E body tb) (L:LamC X scope cl js fr) (hjk:k+2≤j:=by decide) (hfn:∀x,X.fn x=true:=by intros;rfl)
  (hdef:defaultsOf params X.env=([],[]):=by rfl) (hbind:∀qual pm cv ctv,bindArgs (PySem.W.kla_fn "<lambda>" qual params body scope cl pm cv ctv) ⟨[],[]⟩=pure []:=by intros;rfl) (hg:Gl X fx:=by rfl) (hdb:(fx==("__debug__":Str))=false:=by decide) :
  DE X E (.Call (.Name fx p) [.Lambda params body scope lpos] [] pos) (fun δ=>Fh (tb (cZ js δ))):=⟨by
 obtain⟨f,hm,hkp,run⟩:=Hd.ex
 intro pins s σ H Q I h
 obtain⟨ρ,δ,M,ev,jj,go⟩:=h
 refine wpAny_Call_Name_kw (ld_glob I hg hm ?_ hdb)
 obtain⟨ps0,hP0⟩:=hP
 obtain⟨more,hPt⟩:=I.base.tbls P ps0 hP0
 have pl:PE X (.Lambda params body scope lpos) (Kz P params body scope cl):=J5 hcd T.hd T.ne T.bl L.clos hdef
 refine PySem.W.callWith_K (h₀:=X.base) I.ok.mod.kin hkp (thn (xq pl pa_nil rfl pos pins s σ H (fun vs H1=>∃g,vs=[.ref g]∧H g=none∧Same H H1∧o6 H1 g params body scope cl) I ⟨⟨_,hPt⟩,fun g H1 a b c=>⟨g,rfl,a,b,c⟩⟩) fun us s1 h1=>?_) (bF rfl) rfl
 obtain⟨vs,H1,I1,r,g,rfl,hgn,S,La⟩:=h1
 refine⟨I1.kIn,?_⟩
 obtain⟨u,rfl,ru⟩:∃u,us=[u]∧RelV (.ref g) u:=by
  cases r with
  |cons r1 r2=>cases r2;exact⟨_,rfl,r1⟩
 obtain rfl:u=Value.ref g:=ru
 have x1:Ext ρ H ρ H1:=.same S
 have go1:Go X.mg E (Cv X.mg) Q ρ H1 (Fh (tb (cZ js δ))) M:=let ⟨r,e,p⟩:=go;⟨r,e,p.mono x1⟩
 have th:ThD X.prog X.w X.K X.mg X.base (k+1) X.stack s1 H1 ρ g (tb (cZ js δ)):=by
  refine⟨fun s2 H2 un ok=>?_,fun A2 outer2 s2 H2 ρ2 M2 Q2 E2 hr2 e2 un ex2 j2 yK=>?_⟩
  ·obtain⟨qual,pm,cv,ctv,hgl,_⟩:=La
   exact⟨_,_,_,_,(ok g _ (un.frzs g _ _ hgl)).1⟩
  ·refine Hy L.ok e2 hr2 (La.mono fun b o e=>un.frzs b o _ e) (DK L hfn I1 un) hbind fun qual cd hr3=>⟨_,(hbody hr3).h,ρ2,cZ js δ,M2,?_,j2,yK⟩
   have:=yJ ((ev.mono x1).mono ex2) 0 js
   show Ev X.mg ρ2 H2 (pick js σ) (cZ js δ)
   simpa[bY] using this
 refine wpAny_call (codeAny_mono (run X.A X.stack s1 H1 ρ M g _ Q E (hr.mono hjk) I1.env0 th (jj.same S) go1) fun r s' hq=>?_)
 cases r with
 |error e=>exact hx pins σ H1 s1 e s' I1 hq
 |ok fl=>
   cases fl with
   |ret u=>exact I1.after hq
   |next=>exact False.elim hq
   |brk=>exact False.elim hq
   |cont=>exact False.elim hq⟩
open PySem PySem.Spec L2
open PyProof.Rows hiding St
end L3
namespace L2
open PySem PySem.Spec PyProof.Rows LS
end L2
namespace L3
open PySem PySem.Spec L2
open PyProof.Rows hiding St
open PySem PySem.Spec L2
open PyProof.Rows hiding St
end L3
namespace L3
open PySem PySem.Spec L2
open PyProof.Rows hiding St
end L3
namespace L3
open PySem PySem.Spec PyProof.Rows L2
end L3
namespace L3
open PySem PySem.Spec L2 LA LB LS
open PyProof.Rows hiding St
end L3
namespace L3
open PySem PySem.Spec L2
open PyProof.Rows hiding St
variable{X:Cx}{E:XK}
end L3
namespace L3
open PySem PySem.Spec PyProof.Rows L2
end L3
namespace L3
open PySem PySem.Spec L2
open PyProof.Rows hiding St
end L3
namespace L3
open PySem PySem.Spec L2
end L3
namespace L2
open PySem PySem.Spec PyProof.Rows
end L2
namespace L3
open PySem PySem.Spec L2
end L3
namespace L3
open PySem PySem.Spec L2
open PyProof.Rows hiding St
theorem qy:DE X E e (fun _=>stuck):=⟨by
 intro pins s σ H D I h
 obtain⟨ρ,δ,M,ev,j,g1⟩:=h
 obtain⟨r,e,_⟩:=g1
 cases e⟩
abbrev Fy(P:Program)(w:World)(K:PySem.W.Frag)(mg:Str->Option Value)(base:Heap)(N:List Str)(qual:Str)(scope:Scope)(f:Addr)(cd:Value)(A:Around)(outer:List Env)(s:Shared)(H:Hp):Cx:=
 { bO P w K mg base N qual scope f cd A outer s H E0 with calm:=false,xe:=fun _ _=>False }
section
variable{P:Program}{w:World}{K:PySem.W.Frag}{mg:Str->Option Value}{base:Heap}{A:Around}{outer:List Env}{s:Shared}{H:Hp}{k:Nat}
theorem Inv.toN(I:Inv (bO P w K mg base N qual scope f cd A outer s H E) pins σ H1 s1):Inv (Fy P w K mg base N qual scope f cd (A.mark y) outer s H) pins σ H1 s1:=
 ⟨⟨I.ok.mod,I.ok.kind,I.ok.glob,I.ok.blt,I.ok.above,I.ok.inj,I.ok.has,I.ok.cab,fun z=>(by cases z),I.ok.frames,I.ok.stk,I.ok.exf,I.ok.bs,I.ok.bsz,I.ok.noex,I.ok.exfs,I.ok.funs,I.ok.frf⟩,I.os,I.bare,I.base,I.loc,I.cell,I.free,I.freeC,I.pin,I.hok,I.len⟩
theorem Hv {x:Str}{st:Stmt}{f:Addr}{fd:FuncData}{N ps:List Str}{us:List Value}{vs:List V}{y:Option Value}{Q:VK}{E:XK} (F:Fun K x x st f fd) (S:FnScope N ps (defScope st)) (e0:Env0 P w K mg base (A.mark y) outer s H) (hr:Room (k + 1) A)
  (hb:∀(kV doc pm:Value) (an:Option Addr) (cdv ct:Value),bindArgs (PySem.W.fnOf x x (defArgs st) (defBody st) (defScope st) .none kV doc pm an cdv ct) ⟨us,[]⟩=pure (ps.zip us)) (hl:vs.length=ps.length) (r:Vals vs us)
  (hbody:∀cdv,Room k (A.deeper (envOfC x (defScope st) s.heap.objs.size f cdv))->∃t,PSs (Fy P w K mg base N x (defScope st) f cdv (A.mark y) outer s H) (defBody st) t∧t { nx:=fun _ H'=>Q .non H',rt:=Q } (L2.start N vs) H) :
  codeAny (model P w) (A.mark y) (.call (.ref f) ⟨us,[]⟩) (CR (bM P w) outer P w H s Q E) s:=by
 obtain⟨oc,od,kV,doc,pm,an,cdv,ct,osl,rfl,lk,hcd⟩:=F.ex
 have KX:K.In s.heap:=e0.mod.kin.keeps fun b o e=>(e0.bs b o e).1
 have lim:s.heap.NoLimit:=e0.mod.nolimit.keeps fun b o e=>(e0.bs b o e).1
 have hkind:∀y∈ps.zip us,(defScope st).names.lookup y.1=some .local∨((defScope st).names.lookup y.1=some .cell∧((cellsFrom (s.heap.objs.size+1) (defScope st).names []).lookup y.1).isSome=true):=fun⟨n,v⟩ hy=>by
  rcases S.par n (List.of_mem_zip hy).1 with q | q
  ·exact .inl q
  ·exact .inr ⟨q,PySem.W.cellsFrom_some _ _ _ (.inl q)⟩
 refine codeAny_call_function hr.depth (KX _ _ lk) rfl S.co S.gen rfl (PySem.W.codeRec_of KX hcd) ?_
 rw[hb]
 refine wpAny_pure (wpAny_newFunctionEnv_cells S.kind hkind fun env he s1 x=>?_)
 subst he
 refine⟨lim.keeps x.toInCall.keep,codeAny_func ?_⟩
 obtain⟨t,ht,hq⟩:=hbody cdv (hr.deeper _)
 have e1:Env0 P w K mg base A outer s H:=⟨e0.frames,e0.mod,e0.bs,e0.bsz,e0.funs,e0.frf,e0.hok,e0.bare⟩
 have I:=inv_start (CX:=bM P w) (E:=E) S hr.hd e1 hl r x
 refine wpAny_mono (ht [] s1 (L2.start N vs) H _ (Inv.toN I) hq) (fun fl s' hs=>?_) fun e s' hs=>hs.elim
 cases fl with
 |ret u=>
   obtain⟨v,σ',H',J,rv,q⟩:=hs
   exact⟨v,H',J.os,J.bare,J.base,J.hok,rv,q⟩
 |next=>
   obtain⟨σ',H',J,q⟩:=hs
   exact⟨V.non,H',J.os,J.bare,J.base,J.hok,(rfl:RelV .non Value.none),q⟩
 |brk=>
   obtain⟨_,_,_,q⟩:=hs
   exact False.elim q
 |cont=>
   obtain⟨_,_,_,q⟩:=hs
   exact False.elim q
end
abbrev uz:List String:=["LookupError", "TypeError", "ArithmeticError", "RuntimeError"]
structure FlK(K:PySem.W.Frag)(mg:Str->Option Value)(ns:List Str)(c:Str)(C:Addr):Prop where
 xa:XAt K C
 kit:∀k∈ns,∀D,mg k=some (.ref D)->PySem.W.kitOne K (.ref C) (.ref D)=some (c==k)
 val:PySem.W.kitOne K (.ref C) (.type "ValueError")=some true
 oth:PySem.W.kitAny K (.ref C) (uz.map Value.type)=some false
def sy:D->Option Addr
 |.exn a=>some a
 |_=>none
theorem Jd(h:sy d=some y):d=.exn y:=by
 unfold sy at h
 split at h
 ·cases h;rfl
 ·cases h
def Gq:D->Option String
 |.ty t=>some t
 |_=>none
theorem KJ(h:Gq d=some t):d=.ty t:=by
 unfold Gq at h
 split at h
 ·cases h;rfl
 ·cases h
def Jl(ns:List Str)(c:Str):D->Option D
 |.cls k=>if ns.contains k then some (.bl (c==k)) else none
 |.ty t=>if t = "ValueError" then some (.bl true) else none
 |.tup l=>if l.map Gq=uz.map some then some (.bl false) else none
 |_=>none
def jn(ns:List Str)(y:Addr)(c:Str):List D->Mo->Option D
 |[d,k],_=>if sy d=some y then Jl ns c k else none
 |_,_=>none
theorem Dk:∀ {l:List D}{ts:List String},l.map Gq=ts.map some->l=ts.map D.ty
 |[],[],_=>rfl
 |[],_::_,h=>by cases h
 |_::_,[],h=>by cases h
 |d::l,t::ts,h=>by
   rw[List.map_cons,List.map_cons] at h
   rw[KJ (List.cons.inj h).1,Dk (List.cons.inj h).2];rfl
theorem yG:∀{ts:List String}{xs:List V},Cvs mg ρ H xs (ts.map D.ty)->xs=ts.map V.ty
 |[],_,.nil=>rfl
 |_::_,_,.cons a t=>by cases a;rw[yG t];rfl
theorem xW:∀{ts:List String}{us:List Value},Vals (ts.map V.ty) us->us=ts.map Value.type
 |[],_,.nil=>rfl
 |_::_,_,.cons a t=>by cases a;rw[xW t];rfl
theorem bj (T:FlK X.K X.mg ns c C) (ho:oe.cls=.ref C) (h0:X.s₀.heap.get? y=some oe) (hn:X.H₀ y=none) (hf:y∉X.fs) (hex:X.ex=[]:=by rfl):CallD X E (.builtin "isinstance") (fun l=>rd (jn ns y c l)):=by
 intro pins s σ H vs us Q I rs q
 obtain⟨ρ,M,ds,j,cs,go⟩:=q
 obtain⟨d,e,p⟩:=go.rd
 have hh:s.heap.get? y=some oe:=I.base.keep y oe h0 hn hf (by rw[hex];simp)
 unfold jn at e
 split at e
 rotate_left
 ·cases e
 split at e
 rotate_left
 ·cases e
 rename_i hk
 obtain rfl:=Jd hk
 obtain⟨v,w,rfl,k1,k2⟩:=cs.two
 obtain⟨u,w',rfl,r1,r2⟩:=vals2 rs
 cases k1
 cases r1
 have Z:=Ek (x:=y) T.xa ho
 have fin:∀b,d=.bl b->∀tk,EP X pins σ Q (.bool b) { s with toks:=tk }:=fun b e tk=>⟨.bl b,H,I.tok _,rfl,p ρ H _ .refl j (e ▸ .bl b)⟩
 unfold Jl at e
 split at e
 ·split at e
  ·rename_i hm
   cases k2 with | cls h=>
   cases r2
   exact PySem.W.kia_one Z I.kIn hh (T.kit _ (List.contains_iff_mem.mp hm) _ h) (fun z=>nomatch z) (fin _ (Option.some.inj e).symm)
  ·cases e
 ·split at e
  ·rename_i hm
   subst hm
   cases k2
   cases r2
   exact PySem.W.kia_one Z I.kIn hh T.val (fun z=>nomatch z) (fin _ (Option.some.inj e).symm)
  ·cases e
 ·split at e
  ·rename_i hm
   obtain rfl:=Dk hm
   cases k2 with | tup hna ha cc=>
   cases r2
   rw[yG cc] at ha
   obtain⟨_,its,rv,o,ho',hc',n,hd'⟩:=I.hok _ _ ha
   rw[xW rv] at hd'
   obtain⟨o1,o2,o3,o4⟩:=o
   cases hc';cases hd'
   exact PySem.W.kia_tup Z I.kIn hh ho' T.oth (fun z=>nomatch z) (fin _ (Option.some.inj e).symm)
  ·cases e
 ·cases e
structure FlgD(P:Program)(w:World)(K:PySem.W.Frag)(mg:Str->Option Value)(base:Heap)(k:Nat)(x:Str)(rs:List Str)(W:Str->D):Prop where
 ex:∃f,mg x=some (.ref f)∧PySem.W.keepIn K (.ref f)=true∧∀(A:Around) (outer:List Env) (s:Shared) (H:Hp) (ρ:Rh) (M:Mo) (y:Addr) (oe:Obj) (c:Str) (C:Addr) (Q:VK) (E:XK),Room (k+1) A->Env0 P w K mg base (A.mark (some (.ref y))) outer s H->
  s.heap.get? y=some oe->H y=none->y∉frs outer->c∈rs->mg c=some (.ref C)->oe.cls=.ref C->J mg ρ M H->Go mg E (Cv mg) Q ρ H (pure (W c)) M->
  codeAny (model P w) (A.mark (some (.ref y))) (.call (.ref f) ⟨[.ref y],[]⟩) (CR (bM P w) outer P w H s Q E) s
section
variable{P:Program}{w:World}{K:PySem.W.Frag}{mg:Str->Option Value}{base:Heap}{k:Nat}{x p:Str}{N:List Str}{st:Stmt}{rs ns:List Str}{W:Str->D}
theorem Oe {fb:Addr->Str->ao->DM Fl} (T:DefAt K mg x st) (S:FnScope N [p] (defScope st)) (hk:∀ c∈rs,∀ C,mg c=some (.ref C)->FlK K mg ns c C)
  (hF:∀y c,c∈rs->fb y c (aU N.length [.exn y])=pure (.rt (W c)))
  (hbody:∀{f:Addr}{cdv:Value}{A:Around}{outer:List Env}{s:Shared}{H:Hp}{y:Addr}{oe:Obj}{c:Str}{C:Addr},Room k (A.deeper (envOfC x (defScope st) s.heap.objs.size f cdv))->FlK K mg ns c C->oe.cls=.ref C->s.heap.get? y=some oe->H y=none->y∉frs outer->
    DSs (Fy P w K mg base N x (defScope st) f cdv (A.mark (some (.ref y))) outer s H) E0 (defBody st) (fb y c))
  (hb:∀(kV doc pm:Value) (an:Option Addr) (cdv ct u:Value),bindArgs (PySem.W.fnOf x x (defArgs st) (defBody st) (defScope st) .none kV doc pm an cdv ct) ⟨[u],[]⟩=pure ([p].zip [u]):=by intros;rfl):FlgD P w K mg base k x rs W:=by
 obtain⟨f,fd,F,m⟩:=T.ex
 refine⟨f,m,F.kp,fun A outer s H ρ M y oe c C Q E hr e0 hy hn hf hc hm ho j go=>?_⟩
 refine Hv (us:=[.ref y]) (vs:=[.ref y]) F S e0 hr (fun _ _ _ _ _ _=>hb _ _ _ _ _ _ _) rfl (.cons rfl .nil) fun cdv hr'=>⟨_,(hbody (c:=c) hr' (hk c hc C hm) ho hy hn hf).h,ρ,aU N.length [.exn y],M,jl (.cons (.exn y) .nil),j,?_⟩
 obtain⟨r,e,q⟩:=go
 cases e
 exact⟨(.ok (.rt (W c)),M),by rw[hF y c hc];rfl,fun ρ1 H1 v x j c=>q ρ1 H1 v x j c⟩
end
theorem GF (hr:Room k X.A) (Fg:FlgD X.prog X.w X.K X.mg X.base j x rs W) (hc:c∈rs) (hm:X.mg c=some (.ref C)) (ho:oe.cls=.ref C) (hjk:j + 1≤k:=by decide) (hN:X.N[i]?=some n:=by rfl)
  (hv:Vis X.env.scope n:=by exact Or.inl rfl) (hd:(n==("__debug__":Str))=false:=by decide) (hcd:(n==("__classdict__":Str))=false:=by decide) (hg:Gl X x:=by rfl) (hdb:(x==("__debug__":Str))=false:=by decide) :
  DSs (X.sui y oe) E0 [.Return (some (.Call (.Name x p) [.Name n p2] [] pos)) pos2] (fun δ=>qG i δ>>=fun d=>match d with
   |.exn a=>if a==y then pure (.rt (W c)) else stuck
   |_=>stuck):=by
 refine aD ⟨PS.mono (L2.ps_ret (te:=fun σ H Q=>∃ρ M,σ[i]?=some (some (.ref y))∧J X.mg ρ M H∧Go X.mg E0 (Cv X.mg) Q ρ H (pure (W c)) M) ?_) fun D σ H h=>?_⟩
 ·obtain ⟨f,hf,hkp,run⟩:=Fg.ex
  intro pins s σ H Q I h
  obtain⟨ρ,M,hσ,j,go⟩:=h
  refine wpAny_Call_Name_kw (ld_glob I hg hf ?_ hdb)
  refine PySem.W.callWith_K (h₀:=X.base) I.ok.mod.kin hkp (thn (xq (X:=X.sui y oe) (pe_var hN hv hd hcd) pa_nil rfl pos pins s σ H (fun vs H1=>vs=[.ref y]∧H1=H) I ⟨.ref y,hσ,rfl,rfl⟩) fun us s1 h1=>?_) (bF rfl) rfl
  obtain⟨vs,H1,I1,r,rfl,rfl⟩:=h1
  refine⟨I1.kIn,?_⟩
  obtain⟨u,rfl,ru⟩:∃u,us=[u]∧RelV (.ref y) u:=by
   cases r with
   |cons r1 r2=>cases r2;exact⟨_,rfl,r1⟩
  obtain rfl:u=Value.ref y:=ru
  obtain⟨e1,e2,e3,e4,_⟩:=I1.pin (y,oe) (List.mem_append_left _ (List.mem_append_right _ List.mem_cons_self))
  have hns:y∉frs X.stack:=fun hm=>by
   rcases List.mem_cons.mp (I1.stkSub y hm) with z | z
   ·exact e3 z
   ·exact e4 z
  refine wpAny_call (codeAny_mono (run X.A X.stack s1 H1 ρ M y oe c C Q E0 (hr.mono hjk) I1.env0 e1 e2 hns hc hm ho j go) fun r s' hq=>?_)
  cases r with
  |error e=>
    obtain⟨_,_,_,_,_,_,_,_,_,_,_,_,_,q⟩:=hq
    exact q.elim
  |ok fl=>
    cases fl with
    |ret u=>exact I1.after hq
    |next=>exact False.elim hq
    |brk=>exact False.elim hq
    |cont=>exact False.elim hq
 ·obtain ⟨ρ,δ,M,ev,j,g1⟩:=h
  obtain⟨r,e,q⟩:=g1
  have e:DM.bind (qG i δ) _ M=some r:=e
  rename_i e0;clear e0
  unfold DM.bind at e
  split at e
  ·cases e
  ·rename_i c' M' em
   unfold qG at em
   obtain⟨_,_,z⟩:=Option.map_eq_some_iff.mp em
   cases z
  ·rename_i a M' em
   obtain⟨d,hd',z⟩:=Option.map_eq_some_iff.mp em
   cases z
   have hδ:δ[i]?=some (some a):=by
    cases z:δ[i]? with
    |none=>rw[z] at hd';cases hd'
    |some o=>rw[z] at hd';cases o with
      |none=>cases hd'
      |some b=>cases hd';rfl
   obtain⟨v,hv',cv⟩:=ev.val i a hδ
   dsimp only at e
   split at e
   ·split at e
    ·rename_i a hay
     obtain rfl:=beq_iff_eq.mp hay
     have e':=Option.some.inj e
     subst e'
     cases cv
     exact⟨ρ,M,hv',j,_,rfl,fun ρ1 H1 v x j c=>q ρ1 H1 v x j c⟩
    ·cases e
   ·cases e
section
variable{X:Cx}{E:XK}{An:AT}{e:Expr}{fe:ao->DM D}{pos:Pos}
theorem Gv{x1}(ha:PE X a (tC (.str wd)))(he:AE X E An e fe)(h1:notStar a=true:=by rfl)(h2:notStar e=true:=by rfl):AE X E An (.Tuple [a,e] x1 pos) (fun δ=>fe δ>>=fun d=>pure (.tup [.str wd,d])):=
 ⟨PE.mono (L2.pe_tup (xq ha (xq he.h pa_nil h2) h1)) fun σ H Q h=>by
  obtain⟨ρ,δ,M,an,ev,j,g1⟩:=h
  exact⟨ρ,δ,M,an,ev,j,g1.bind fun ρ1 H1 M1 v d e1 j1 c1 g2=>⟨by show 2≤sizeLine;decide,fun p hp=>g2.pure ρ1 _ _ (.lay hp) (j1.lay _ hp) (.tup (j1.fresh hp) upd_same (Cvs.mono (.lay hp) (.cons (.str wd) (.cons c1 .nil))))⟩⟩⟩
end
structure DefT(P:Program)(w:World)(K:PySem.W.Frag)(mg:Str->Option Value)(base:Heap)(k:Nat)(x:Str)(ps:List Str)(Pt:Addr)(F:List D->DM D):Prop where
 h:DefC P w K mg base k x ps (fun vs H Q E=>oW mg F vs H Q E∧∃qs,H Pt=some (.tbl qs))
theorem Oh{P:Program}{w:World}{K:PySem.W.Frag}{mg:Str->Option Value}{base:Heap}{k:Nat}{x:Str}{N ps:List Str}{st:Stmt}{fb:ao->DM Fl}{Pt c:Addr}{h:Heap}(T:DefAt K mg x st)(S:FnScope N ps (defScope st))(X:K.In h)(G:h.Ns mainGlobals mg)(ht:PySem.W.tabIn K x=some (c,Pt))
  (hbody:∀{f cdv A outer s H E},(∃qs,H Pt=some (.tbl qs))->cdv=.ref c->Rm k A x st s f cdv->Ds P w K mg base N x st f cdv A outer s H E fb)
  (hb:∀(kV doc pm:Value) (an:Option Addr) (cdv ct:Value) (us:List Value),us.length=ps.length->bindArgs (PySem.W.fnOf x x (defArgs st) (defBody st) (defScope st) .none kV doc pm an cdv ct) ⟨us,[]⟩=pure (ps.zip us):=by intro _ _ _ _ _ _ us hl;first | (obtain⟨_,rfl⟩:=fQ hl;rfl) | (obtain⟨_,_,rfl⟩:=uw hl;rfl) | (obtain⟨_,_,_,rfl⟩:=qL hl;rfl) | (obtain⟨_,_,_,_,rfl⟩:=El hl;rfl)) :
  DefT P w K mg base (k+1) x ps Pt (aK ps.length N.length fb):=by
 obtain⟨f,fd,F,m⟩:=T.ex
 have hc:=F.codeC X G m ht
 have Fb:=F.binds hb
 have Fk:=F.kp
 obtain⟨oc,od,kV,doc,pm,an,cdv,ct,osl,rfl,lk,cd⟩:=F.ex
 obtain rfl:cdv=.ref c:=hc
 refine⟨f,_,fn_of lk cd S (fun vs H Q E h=>?_) fun A outer s H vs Q E hr h=>?_,Fb,Fk,m⟩
 ·obtain⟨⟨ρ,M,ds,c,j,g⟩,_⟩:=h
  rw[c.len];exact (bL.aK g).1
 obtain⟨⟨ρ,M,ds,c,j,g⟩,ht⟩:=h
 exact⟨_,(hbody ht rfl hr).h,ρ,_,M,jl c,j,(bL.aK g).2⟩
theorem Lh(j:J mg ρ M H)(h:H a=some (HO.tbl qs)):a∉ρ.st:=fun z=>by
 obtain⟨n,hn,e⟩:=List.mem_iff_getElem.mp z
 have hm:n<M.length:=by rw[←j.len];exact hn
 have c:=j.obj n a M[n] (by rw[List.getElem?_eq_getElem hn,e]) (List.getElem?_eq_getElem hm)
 cases hM:M[n] with
 |lst l=>rw[hM] at c;obtain⟨_,c,_⟩:=c;rw[h] at c;cases c
 |dic ks l=>rw[hM] at c;obtain⟨_,c,_⟩:=c;rw[h] at c;cases c
 |ins cc ns l=>rw[hM] at c;obtain⟨_,_,_,_,c,_⟩:=c;rw[h] at c;cases c
theorem qx(D:DefT X.prog X.w X.K X.mg X.base j x ps Pt F)(hP:∃qs,X.H₀ Pt=some (.tbl qs))(hr:Room k X.A)(hx:Passes (bM X.prog X.w) X E)(ha:DA X E (e::es) fs)(hjk:j≤k:=by decide)(hg:Gl X x:=by rfl)(hdb:(x==("__debug__":Str))=false:=by decide)
  (he:notStar e=true:=by rfl) (hpl:(backTo pos (starEach es X.env)).any (·.1)=false:=by rfl) :
  DE X E (.Call (.Name x p) (e::es) [] pos) (fun δ=>fs δ>>=F):=⟨fun pins s σ H Q I h=>by
 obtain⟨qs,hq⟩:=hP
 obtain⟨more,hq⟩:=I.base.tbls Pt qs hq
 refine vg D.h hr hx ha.h hjk hg hdb he hpl pins s σ H Q I ?_
 obtain⟨ρ,δ,M,ev,j,g1⟩:=h
 refine⟨ρ,δ,M,ev,j,g1.bind fun ρ1 H1 M1 xs dxs e1 j1 c1 g2=>?_⟩
 rw[List.append_nil]
 exact And.intro ⟨ρ1,M1,dxs,c1,j1,g2⟩ ⟨_,e1.keep Pt _ hq (Lh j hq)⟩⟩
def pW(K:PySem.W.Frag)(C:Addr)(c:Str):List Str->Prop
 |[]=>True
 |x::xs=>(∃d,PySem.W.nsIn K mainGlobals x=some (some (.ref d))∧PySem.W.kitOne K (.ref C) (.ref d)=some (c==x))∧pW K C c xs
theorem aH{K:PySem.W.Frag}{C d:Addr}{c x:Str}{xs:List Str}(q:Bool)(a:PySem.W.nsIn K mainGlobals x=some (some (.ref d)))(b:PySem.W.kitOne K (.ref C) (.ref d)=some q)(e:(c==x)=q)(t:pW K C c xs):pW K C c (x::xs):=⟨⟨d,a,b.trans (congrArg some e.symm)⟩,t⟩
theorem pW.at{K:PySem.W.Frag}{C:Addr}{c x:Str}:∀{ns:List Str},pW K C c ns->x∈ns->∃d,PySem.W.nsIn K mainGlobals x=some (some (.ref d))∧PySem.W.kitOne K (.ref C) (.ref d)=some (c==x)
 |_::_,h,.head _=>h.1
 |_::_,h,.tail _ m=>pW.at h.2 m
theorem wK{K:PySem.W.Frag}{mg:Str->Option Value}{h:Heap}{ns:List Str}{c:Str}{C:Addr}(X:K.In h)(G:h.Ns mainGlobals mg)(n:pW K C c ns)(xa:XAt K C)(v:PySem.W.kitOne K (.ref C) (.type "ValueError")=some true)(o:PySem.W.kitAny K (.ref C) (uz.map Value.type)=some false):FlK K mg ns c C:=
 ⟨xa,fun k hk D hD=>by
  obtain⟨d,e1,e2⟩:=n.at hk
  have:=(PySem.W.mg_of X G e1).symm.trans hD
  cases this
  exact e2,v,o⟩
theorem bK{ns:List Str}(h:∀x∈ns,∃C,X.mg x=some (.ref C))(hx:ns.contains x=true:=by decide +kernel)(hg:Gl X x:=by rfl)(hd:(x==("__debug__":Str))=false:=by decide):DE X E (.Name x pos) (fun _=>pure (.cls x)):=by
 obtain⟨C,e⟩:=h x (List.contains_iff_mem.mp hx)
 exact rW e hg hd
theorem Nb {P:Program}{w:World}{K:PySem.W.Frag}{mg:Str->Option Value}{base:Heap}{k:Nat}{x:Str}{N ps:List Str}{st:Stmt}{fb:ao->DM Fl}{f:Addr}{fd:FuncData}{ts:List (Addr×Addr)} (F:Fun K x x st f fd) (S:FnScope N ps (defScope st))
  (hbody:∀(cdv:Value) (A:Around) (outer:List Env) (s:Shared) (H:Hp) (E:XK),(∀q∈ts,H q.2=some (.tbl #[]))->Room k (A.deeper (envOfC x (defScope st) s.heap.objs.size f cdv))->
    DSs (bO P w K mg base N x (defScope st) f cdv A outer s H E) E (defBody st) fb):FnOk P w K mg base (bM P w) (k+1) f fd ps (fun vs H Q E=>oW mg (aK ps.length N.length fb) vs H Q E∧∀q∈ts,H q.2=some (.tbl #[])):=by
 obtain⟨oc,od,kV,doc,pm,an,cdv,ct,osl,rfl,lk,cd⟩:=F.ex
 refine fn_of lk cd S (fun vs H Q E h=>?_) fun A outer s H vs Q E hr h=>?_
 ·obtain⟨⟨ρ,M,ds,c,j,g⟩,_⟩:=h
  rw[c.len];exact (bL.aK g).1
 obtain⟨⟨ρ,M,ds,c,j,g⟩,ht⟩:=h
 exact⟨_,(hbody cdv A outer s H E ht hr).h,ρ,_,M,jl c,j,(bL.aK g).2⟩
end L3
namespace L2
open PySem PySem.Spec PyProof.Rows
end L2
namespace L3
open PySem PySem.Spec L2
end L3
namespace L2
open PySem PySem.Spec PyProof.Rows
end L2
namespace L3
open PySem PySem.Spec L2
theorem Cvs.of:∀{vs:List V}{ds:List D},vs.length=ds.length->(∀(j:Nat) v d,vs[j]?=some v->ds[j]?=some d->Cv mg ρ H v d)->Cvs mg ρ H vs ds
 |[],[],_,_=>.nil
 |[],_::_,h,_=>by cases h
 |_::_,[],h,_=>by cases h
 |v::vs,d::ds,h,f=>.cons (f 0 v d rfl rfl) (Cvs.of (by simpa using h) fun j v' d' e1 e2=>f (j+1) v' d' (by simpa using e1) (by simpa using e2))
end L3
namespace L3
open PySem PySem.Spec L2 LB
open PyProof.Rows hiding St
end L3
namespace L2
open PySem PySem.Spec PyProof.Rows
end L2
namespace L3
open PySem PySem.Spec L2
end L3
namespace L2
open PySem PySem.Spec PyProof.Rows
end L2
namespace L3
open PySem PySem.Spec L2
open PyProof.Rows hiding St
def Pa(ns:List Str)(n:Nat)(fb fh:ao->DM Fl)(δ:ao):DM Fl:=fun M=>match fb δ M with
 |some (.exc c,M')=>if ns.contains c then dY (fh (List.replicate n none)) M' else none
 |r=>r
def qH(c:Str)(n:Nat)(M:Mo):Bool:=match M[n]? with
 |some (.ins k _ _)=>k==c
 |_=>false
theorem uq{mg:Str->Option Value}{ρ:Rh}{H:Hp}{M:Mo}{c:Str}{C:Addr}{n:Nat}{a:Addr}(mc:mg c=some (.ref C))(j:J mg ρ M H)(hn:ρ.st[n]?=some a)(h:qH c n M=true):∃dx fs,H a=some (.ins C dx fs):=by
 unfold qH at h
 split at h
 ·rename_i k ns vs hm
  obtain⟨C',dx,xs,m,hx,l,cs⟩:=j.obj _ _ _ hn hm
  obtain rfl:k=c:=by simpa using h
  rw[mc] at m;cases m
  exact⟨_,_,hx⟩
 ·cases h
section
variable{X:Cx}{E:XK}{j k:Nat}{c qual:Str}{st:Stmt}{ps:List Str}{F:List D->DM D}
def zL(c:Str)(F:List D->DM D):List D->DM D
 |[.ref n]=>dm (qH c n) (F [.ref n]>>=lU)
 |_=>stuck
theorem Bj (T:MethD X.prog X.w X.K X.mg X.base j c "__len__" qual st ps F) (hr:Room k X.A) (hx:Passes (bM X.prog X.w) X E)
  (hb:∀(kV doc pm:Value) (an:Option Addr) (cdv ct:Value) (us:List Value),us.length=ps.length->bindArgs (PySem.W.fnOf "__len__" qual (defArgs st) (defBody st) (defScope st) .none kV doc pm an cdv ct) ⟨us,[]⟩=pure (ps.zip us))
  (hjk:j+1≤k:=by decide):CallD X E (.builtin "len") (zL c F):=by
 obtain⟨C,f,fd,mc,G,B,a,n,cl⟩:=T.ex
 have MC:MethC X.prog X.w X.K X.mg X.base j C "__len__" ps (oW X.mg F):=⟨f,fd,G,B.binds hb,B.kp,a,n⟩
 intro pins s σ H vs us Q I rs q
 obtain⟨ρ,M,ds,j,cv,go⟩:=q
 unfold zL at go
 split at go
 ·obtain ⟨v,rfl,kv⟩:=cv.one
  obtain⟨hi,go⟩:=go.when
  cases kv with
  | ref hn=>
    obtain⟨dx,fs,hh⟩:=uq mc j hn hi
    refine uV MC (hr.mono hjk) hx pins s σ H _ us Q I rs ⟨_,_,_,rfl,hh,ρ,M,_,cv,j,go.bind fun ρ1 H1 M1 b d e1 j1 c1 g2=>?_⟩
    unfold lU at g2
    split at g2
    ·split at g2
     ·rename_i hn2
      cases c1
      exact⟨_,rfl,hn2,g2.pure ρ1 H1 _ .refl j1 (.int _)⟩
     ·obtain⟨r,e,_⟩:=g2;cases e
    ·obtain⟨r,e,_⟩:=g2;cases e
 ·obtain⟨r,e,_⟩:=go;cases e
end
def Eo(c:Str)(Fi:List D->DM D)(ds:List D):DM D:=FQ c>>=fun r=>Fi (r::ds)>>=fun d=>match d with
 |.non=>pure r
 |_=>stuck
theorem MK {P:Program}{w:World}{K:PySem.W.Frag}{mg:Str->Option Value}{base:Heap}{k:Nat}{c qual:Str}{st:Stmt}{ps:List Str}{Fi:List D->DM D} (T:MethD P w K mg base k c "__init__" qual st ps Fi)
  (hb:∀(kV doc pm:Value) (an:Option Addr) (cdv ct:Value) (us:List Value),us.length=ps.length->bindArgs (PySem.W.fnOf "__init__" qual (defArgs st) (defBody st) (defScope st) .none kV doc pm an cdv ct) ⟨us,[]⟩=pure (ps.zip us))
  (hm:∀C,mg c=some (.ref C)->PySem.W.makesIn K C=true∧PySem.W.keepIn K (.ref C)=true):ClsD P w K mg base k c (Eo c Fi):=by
 obtain⟨C,f,fd,mc,G,B,a,n,cl⟩:=T.ex
 refine⟨C,ps,_,⟨f,fd,G,B.binds hb,B.kp,a,n⟩,(hm C mc).1,(hm C mc).2,mc,fun ρ M H vs ds Q E cv j g x dx hx hdx hne=>?_⟩
 have hx':upd H dx (.own x) x=none:=by rw[upd_ne (fun z=>hne z.symm)];exact hx
 have x1:Ext ρ H ρ (upd H dx (.own x)):=.lay hdx
 have j1:=j.lay (.own x) hdx
 have x2:Ext ρ (upd H dx (.own x)) (ρ.put x) (upd (upd H dx (.own x)) x (.ins C dx [])):=.put hx'
 have j2:J mg (ρ.put x) (M++[.ins c [] []]) (upd (upd H dx (.own x)) x (.ins C dx [])):=j1.put hx' ⟨C,dx,[],mc,upd_same,rfl,.nil⟩
 have hput:(ρ.put x).st[M.length]?=some x:=by
  show (ρ.st++[x])[M.length]?=some x
  rw[←j.len,List.getElem?_append_right (Nat.le_refl _)];simp
 have x12:=x1.trans x2
 refine⟨ρ.put x,M++[.ins c [] []],.ref M.length::ds,.cons (.ref hput) (cv.mono x12),j2,?_⟩
 have g':Go mg E (Cv mg) Q ρ H (FQ c>>=fun r=>Fi (r::ds)>>=fun d=>match d with
  |.non=>pure r
  |_=>stuck) M:=g
 have g2:Go mg E (Cv mg) Q (ρ.put x) (upd (upd H dx (.own x)) x (.ins C dx [])) (Fi (.ref M.length::ds)>>=fun d=>match d with
  |.non=>pure (.ref M.length)
  |_=>stuck) (M++[.ins c [] []]):=by
  obtain⟨r,e,p⟩:=g'
  exact⟨r,e,p.mono x12⟩
 exact g2.bind fun ρ2 H2 M2 b d e2 j3 cb g3=>by
  split at g3
  ·cases cb
   exact⟨rfl,g3.pure ρ2 H2 _ .refl j3 (.ref (e2.at hput))⟩
  ·obtain⟨r,e,_⟩:=g3;cases e
def Pb(c f:Str):D->Mo->Option D
 |.ref n,M=>lX c f (.ref n) M
 |_,_=>none
def Gb:D->DM D
 | .ref n=>fun M=>match M[n]? with
   |some (.lst l)=>match l[l.length-1]? with
     |some d=>some (.ok d,M.set n (.lst l.dropLast))
     |none=>none
   |_=>none
 |_=>stuck
theorem Cvs.dropLast {mg:Str->Option Value}{ρ:Rh}{H:Hp}{xs:List V}{l:List D} (c:Cvs mg ρ H xs l):Cvs mg ρ H xs.dropLast l.dropLast:=by
 refine Cvs.of (by rw[List.length_dropLast,List.length_dropLast,c.len]) fun i v d e1 e2=>?_
 rw[List.getElem?_dropLast] at e1 e2
 split at e1
 ·split at e2
  ·obtain⟨w,hw,cw⟩:=c.get e2
   rw[e1] at hw;cases hw;exact cw
  ·cases e2
 ·cases e1
theorem Gy {X:Cx}{E:XK}{o:Expr}{fo:ao->DM D}{apos cpos:Pos} (ho:DE X E o fo) (hbase:attributeBase o "pop" X.env (eval o X.env)=eval o X.env:=by rfl) (hline:(apos.endLine == cpos.line)=true:=by rfl) :
  DE X E (.Call (.Attribute o "pop" apos) [] [] cpos) (fun δ=>fo δ>>=Gb):=⟨PE.mono (pe_bm0 (r:=rPop) PySem.F.plainAttrs_list PySem.F.slot_list_pop PySem.F.type_list_pop (fun pins s σ H x xs v us Q I rx rs h=>mt_pop pins s σ H x xs v us Q I rx rs h) ho.h hbase hline) fun σ H Q h=>by
 obtain⟨ρ,δ,M,ev,j,g1⟩:=h
 refine⟨ρ,δ,M,ev,j,g1.bind fun ρ1 H1 M1 x dx e1 j1 c1 g2=>?_⟩
 obtain⟨r,e,p⟩:=g2
 cases c1 with
 | ref hn=>
   rename_i n a
   have e:(match M1[n]? with
    |some (.lst l)=>match l[l.length-1]? with
      |some d=>some (R.ok d,M1.set n (.lst l.dropLast))
      |none=>none
    |_=>none)=some r:=e
   split at e
   ·rename_i l hl
    split at e
    ·rename_i d hd
     cases e
     obtain⟨xs,hx,cl⟩:=j1.obj _ _ _ hn hl
     obtain⟨w,hw,cw⟩:=cl.get hd
     have x:Ext ρ1 H1 ρ1 (upd H1 a (.lst xs.dropLast)):=.upd (List.mem_of_getElem? hn)
     exact⟨.inl ⟨rfl,_,SqL.of hx⟩,a,xs,w,rfl,rfl,hx,by rw[cl.len];exact hw,p ρ1 _ w x (j1.upd hn ⟨_,upd_same,cl.dropLast.mono x⟩) (cw.mono x)⟩
    ·cases e
   ·cases e
 |_=>cases e⟩
def jD:List (ao->DM D)->ao->Str->DM D
 |[],_,acc=>pure (.str acc)
 |f::fs,δ,acc=>f δ>>=fun x=>opt (strOf x)>>=fun a=>if (acc++a).length≤sizeLine then jD fs δ (acc++a) else stuck
inductive Djs(X:Cx)(E:XK):List Expr->List (ao->DM D)->Prop
 |nil:Djs X E [] []
 |cons {e:Expr}{f:ao->DM D}{es:List Expr}{fs:List (ao->DM D)}:DE X E e f->Djs X E es fs->Djs X E (e::es) (f::fs)
section
variable{X:Cx}{E:XK}
theorem joins {es:List Expr}{fs:List (ao->DM D)} (h:Djs X E es fs):∀ (acc:Str) (pins:List (Addr×Obj)) (s:Shared) (σ:L2.St) (H:Hp) (Q:VK),acc.length≤sizeLine->Inv X pins σ H s->tD X.mg E (Cv X.mg) (fun δ=>jD fs δ acc) σ H Q->
  wpAny (model X.prog X.w) X.A (joinParts acc (evalEach es X.env)) (EP X pins σ Q) X.xe s:=by
 induction h with
 |nil=>
   intro acc pins s σ H Q ha I g
   obtain⟨ρ,δ,M,ev,j,g⟩:=g
   exact joinParts_nilE (joinParts_nil ⟨.str acc,H,I.tok _,⟨_,rfl⟩,Go.pure g ρ H _ .refl j (.str acc)⟩ ha)
 | @cons e f es fs d ds ih=>
   intro acc pins s σ H Q ha I g
   obtain⟨ρ,δ,M,ev,j,g⟩:=g
   have g:Go X.mg E (Cv X.mg) Q ρ H (f δ>>=fun x=>opt (strOf x)>>=fun a=>if (acc++a).length≤sizeLine then jD fs δ (acc++a) else stuck) M:=g
   refine joinParts_consE (joinParts_cons (thn (d.h pins s σ H (fun x H1=>∃a:Str,x=.str a∧(acc++a).length≤sizeLine∧tD X.mg E (Cv X.mg) (fun δ=>jD fs δ (acc++a)) σ H1 Q) I ⟨ρ,δ,M,ev,j,g.bind fun ρ1 H1 M1 x dx e1 j1 c1 g2=>?_⟩) fun v s1 hv=>?_))
   ·obtain⟨a,rfl,g2⟩:=g2.strOf
    obtain⟨h1,g2⟩:=g2.ite
    cases c1
    exact⟨a,rfl,h1,ρ1,δ,M1,ev.mono e1,j1,g2⟩
   ·obtain⟨x,H1,I1,r1,a,rfl,la,g1⟩:=hv
    obtain⟨t,rfl⟩:=r1
    exact⟨la,ih (acc++a) pins s1 σ H1 Q la I1 g1⟩
theorem Ef{a b:Expr}{es:List Expr}{fs:List (ao->DM D)}{pos:Pos}(h:Djs X E (a::b::es) fs):DE X E (.JoinedStr (a::b::es) pos) (fun δ=>jD fs δ Str.empty):=⟨fun pins s σ H Q I g=>JoinedStr_many (joins h Str.empty pins s σ H Q (by show 0≤_;omega) I g)⟩
def Ae:List D->Mo->Option D
 |[.int i],_=>if i.natAbs.log2<1920 then some (.str (toString i)) else none
 |_,_=>none
theorem uW:CallD X E (.type "str") (fun l=>rd (Ae l)):=by
 intro pins s σ H vs us Q I rs q
 obtain⟨ρ,M,ds,j,cv,go⟩:=q
 obtain⟨r,e,p⟩:=go.rd
 unfold Ae at e
 split at e
 ·split at e
  ·rename_i i _ hi
   cases e
   obtain⟨v,rfl,kv⟩:=cv.one
   cases kv
   obtain⟨u,rfl,ru⟩:=vals1 rs
   obtain⟨t,rfl⟩:=ru
   exact PySem.P.str_of_int hi ⟨.str _,H,I.tok _,⟨_,rfl⟩,p ρ H _ .refl j (.str _)⟩
  ·cases e
 ·cases e
def zj:D->D->Mo->Option D
 |.str a,.str b,_=>if a.length≠0∧b.length≠0∧(a++b).length≤sizeLine then some (.str (a++b)) else none
 |_,_,_=>none
theorem pH:bW X E (binaryOp .Add) (fun x y=>rd (zj x y)):=by
 intro pins s σ H x y v u Q I rx ry q
 obtain⟨ρ,M,dx,dy,j,cx,cy,go⟩:=q
 obtain⟨r,e,p⟩:=go.rd
 unfold zj at e
 split at e
 ·split at e
  ·rename_i a b _ hc
   obtain⟨h1,h2,h3⟩:=hc
   cases e
   cases cx
   cases cy
   obtain⟨t,rfl⟩:=rx
   obtain⟨t',rfl⟩:=ry
   refine PySem.P.add_str ?_
   rw[if_neg (by simpa using h1),if_neg (by simpa using h2)]
   exact⟨h3,.str _,H,I.tok _,⟨_,rfl⟩,p ρ H _ .refl j (.str _)⟩
  ·cases e
 ·cases e
variable{j k:Nat}{c qual:Str}{st:Stmt}{ps:List Str}{F:List D->DM D}
def vG(c:Str)(F:List D->DM D):List D->DM D
 |[.ref n]=>dm (qH c n) (F [.ref n]>>=wB)
 |_=>stuck
theorem zz (T:MethD X.prog X.w X.K X.mg X.base j c "__repr__" qual st ps F) (hr:Room k X.A) (hx:Passes (bM X.prog X.w) X E)
  (hb:∀(kV doc pm:Value) (an:Option Addr) (cdv ct:Value) (us:List Value),us.length=ps.length->bindArgs (PySem.W.fnOf "__repr__" qual (defArgs st) (defBody st) (defScope st) .none kV doc pm an cdv ct) ⟨us,[]⟩=pure (ps.zip us))
  (hjk:j+1≤k:=by decide):CallD X E (.builtin "repr") (vG c F):=by
 obtain⟨C,f,fd,mc,G,B,a,n,cl⟩:=T.ex
 have MC:MethC X.prog X.w X.K X.mg X.base j C "__repr__" ps (oW X.mg F):=⟨f,fd,G,B.binds hb,B.kp,a,n⟩
 intro pins s σ H vs us Q I rs q
 obtain⟨ρ,M,ds,j,cv,go⟩:=q
 unfold vG at go
 split at go
 ·obtain ⟨v,rfl,kv⟩:=cv.one
  obtain⟨hi,go⟩:=go.when
  cases kv with
  | ref hn=>
    obtain⟨dx,fs,hh⟩:=uq mc j hn hi
    refine zA MC hr.units (hr.mono hjk) hx pins s σ H _ us Q I rs ⟨_,_,_,rfl,hh,ρ,M,_,cv,j,go.bind fun ρ1 H1 M1 b d e1 j1 c1 g2=>?_⟩
    unfold wB at g2
    split at g2
    ·cases c1
     exact⟨_,rfl,g2.pure ρ1 H1 _ .refl j1 (.str _)⟩
    ·obtain⟨r,e,_⟩:=g2;cases e
 ·obtain⟨r,e,_⟩:=go;cases e
def xV:D->DM D
 |.int i=>if 0≤i∧i<2^63 then pure (.bl (i != 0)) else stuck
 |_=>stuck
def vy(c:Str)(F:List D->DM D):List D->DM D
 |[.ref n]=>dm (qH c n) (F [.ref n]>>=xV)
 |_=>stuck
theorem zr (T:MethD X.prog X.w X.K X.mg X.base j c "__len__" qual st ps F) {C0:Addr}{gs:List Str} (O:OCls X.K X.mg c C0 gs) (hO:("__bool__":Str)∈gs) (hr:Room k X.A) (hx:Passes (bM X.prog X.w) X E)
  (hb:∀(kV doc pm:Value) (an:Option Addr) (cdv ct:Value) (us:List Value),us.length=ps.length->bindArgs (PySem.W.fnOf "__len__" qual (defArgs st) (defBody st) (defScope st) .none kV doc pm an cdv ct) ⟨us,[]⟩=pure (ps.zip us))
  (hjk:j+3≤k:=by decide):CallD X E (.type "bool") (vy c F):=by
 obtain⟨C,f,fd,mc,G,B,a,n,cl⟩:=T.ex
 obtain rfl:C=C0:=by
  have mc':=O.at_
  rw[mc] at mc';cases mc';rfl
 have nb:=O.no _ hO
 have MC:MethC X.prog X.w X.K X.mg X.base j C "__len__" ps (oW X.mg F):=⟨f,fd,G,B.binds hb,B.kp,a,n⟩
 intro pins s σ H vs us Q I rs q
 obtain⟨ρ,M,ds,j,cv,go⟩:=q
 unfold vy at go
 split at go
 ·obtain ⟨v,rfl,kv⟩:=cv.one
  obtain⟨hi,go⟩:=go.when
  cases kv with
  | ref hn=>
    obtain⟨dx,fs,hh⟩:=uq mc j hn hi
    refine zu MC nb (hr.mono hjk) hx pins s σ H _ us Q I rs ⟨_,_,_,rfl,hh,ρ,M,_,cv,j,go.bind fun ρ1 H1 M1 b d e1 j1 c1 g2=>?_⟩
    unfold xV at g2
    split at g2
    ·split at g2
     ·rename_i hn2
      cases c1
      exact⟨_,rfl,hn2,g2.pure ρ1 H1 _ .refl j1 (.bl _)⟩
     ·obtain⟨r,e,_⟩:=g2;cases e
    ·obtain⟨r,e,_⟩:=g2;cases e
 ·obtain⟨r,e,_⟩:=go;cases e
end
end L3
namespace N10
end N10
namespace K
open PySem L2 L3
theorem xg(l:List Str)(h:l.Nodup:=by decide):l.Nodup:=h
local macro_rules | `(tactic| trivial)=>`(tactic| refine⟨rfl,by decide +kernel,rfl,Dc ?_,fun m_=>BP rfl,by decide,rfl,Ha rfl,Hb ?_,By ?_⟩<;>((repeat' apply And.intro)<;>first | exact True.intro | rfl | exact Or.inl rfl | exact Or.inr rfl | exact⟨_,rfl⟩))
def top(i:Nat):Stmt:=PySem.Challenge.pw_fadewalk_k86_a_keeper_deed_by_deed.main.body.getD i (.Pass ⟨0,0,0,0⟩)
abbrev jM:List Str:=["NoMove", "NoMark", "NoDeed"]
abbrev Qd(k:Nat)(N:List Str)(x:Str)(st:Stmt)(Y:Program->World->PySem.W.Frag->Mg->Heap->Prop->Prop):={b:ao->DM Fl // ∀{P w K mg base f cdv A outer s H E},Y P w K mg base (Rm k A x st s f cdv->Ds P w K mg base N x st f cdv A outer s H E b)}
abbrev Qe(k:Nat)(N:List Str)(x:Str)(st:Stmt)(Y:(Nat->Str->List Str->Fn->Prop)->(Str->Prop)->Prop->Prop):=Qd k N x st fun P w K m o=>Y (DefD P w K m o) (Nn m)
abbrev Sc(N ps:List Str)(st:Stmt):=FnScope N ps (defScope st)
theorem b8{N P:List Str}{sc:Scope}(a:sc.kind=.function:=by exact rfl)(b:sc.isCoroutine=false:=by exact rfl)(c:sc.isGenerator=false:=by exact rfl)(p:N.take P.length=P:=by exact rfl)(d:(decide N.Nodup&&(decide (∀x∈P,sc.names.lookup x=some .local∨sc.names.lookup x=some .cell)&&decide (∀y∈sc.names,y.2≠.free)))=true:=by decide +kernel):FnScope N P sc:=tW a b c p d
theorem Bp{X:Cx}{E:XK}{scope:Scope}{cl:List (Str×Addr)}{elt i0:Expr}{p0 pos:Pos}{fi:ao->DM Itn}{fe:ao->DM D}(x:Str)(js:List Nat)(fr:List Str)(hi:DI X E (.Name x p0) i0 fi)
  (he:∀{pins m fp C s₂ H₂},DE (X.bB pins scope (cellsFrom m scope.names cl) ([x]++fr) fp C s₂ H₂) E0 elt fe) (T:CompG X scope cl [x] js fr:=by trivial) (hc:X.calm=true:=by exact rfl)
  (nd:([x]++fr).Nodup:=by decide) (hl:∀m C Z,(compEnvC scope (cellsFrom m scope.names cl) C Z).scope.names.lookup x=some .local:=by intros;exact rfl)
  (hs:∀y,foldedSetIterable i0 X.env y=pure y:=by intro _;rfl) :
  DE X E (.ListComp elt [⟨.Name x p0,i0,[],0⟩] scope pos) (fun δ=>fi δ>>=fun it=>dY (dC (gN 0) (fun _=>pure true) (cT fe) it (bY [x].length js δ) [])>>=fun p=>Out.val.run p.2):=
 lV (own:=[x]) .val hc T hi (fun _ _ _ _ _ _=>bC (i:=0) nd rfl (Or.inl (hl ..)) (Or.inr (hl ..))) (fun _ _ _ _ _ _=>uh) (fun _ _ _ _ _ _=>he) hs
section
variable(N:Nat)(v0 v1 v2 v3 v4 v5 v6 v7 v8 v9 v10 v11 v12 v13 v14 v15 v16 v17 v18 v19:Fn)
abbrev mH:Stmt:=top 24
theorem yu:Sc ["thing"] ["thing"] mH:=b8
@[simp] noncomputable def tK:Qe 0 ["thing"] "is_whole" mH fun D n Z=>n "bool"->n "int"->n "isinstance"->Z:=
 ⟨_,fun ya yb yc hr=>(aD (aP (ig (aQ cX yc (aa (aj 0) (aa (eY (T := "int") yb) ak))) (ir (Iv (aQ cX yc (aa (aj 0) (aa (eY (T := "bool") ya) ak))))))))⟩
noncomputable def rM:=(tK).1
abbrev iQ:Stmt:=top 27
theorem uI:Sc ["thing", "many"] ["thing", "many"] iQ:=b8
@[simp] noncomputable def m8:Qe 1 ["thing", "many"] "are_weights" iQ fun D n Z=>D 1 "is_whole" ["thing"] v0->n "all"->n "isinstance"->n "len"->n "tuple"->Z:=
 ⟨_,fun ya yb yc yd ye hr=>(au (bx (DW.dt (cY (bZ (bH (aQ cX yc (aa (aj 0) (aa (eY (T := "tuple") ye) ak))) (fun _=>rfl))) (dq (aW (dW hr.units) (aQ call_lenD yd (aa (aj 0) ak)) (aj 1)))))
  (aD (aP gb))
  aV)
  (aD (aP (aQ (nQ hr.hd) yb (aa (Bp "weight" [] [] (rZ (aj 0)) (ig (aM ya hr tu (aa (aj 0) ak)) (ir (dH xm (aj 0) aA)))) ak)))))⟩
noncomputable def mY:=(m8 v0).1
abbrev mD:Stmt:=top 28
theorem yr:Sc ["thing", "many"] ["thing", "many"] mD:=b8
@[simp] noncomputable def tE:Qe 2 ["thing", "many"] "are_rows" mD fun D n Z=>D 2 "are_weights" ["thing", "many"] v0->n "all"->n "isinstance"->n "len"->n "tuple"->Z:=
 ⟨_,fun ya yb yc yd ye hr=>(au (bx (DW.dt (cY (bZ (bH (aQ cX yc (aa (aj 0) (aa (eY (T := "tuple") ye) ak))) (fun _=>rfl))) (dq (aW (dW hr.units) (aQ call_lenD yd (aa (aj 0) ak)) (aj 1)))))
  (aD (aP gb))
  aV)
  (aD (aP (aQ (nQ hr.hd) yb (aa (Bp "row" [1] ["many"] (rZ (aj 0)) (aM ya hr tu (aa (aj 0) (aa (aj 1) ak)))) ak)))))⟩
noncomputable def rJ:=(tE v0).1
abbrev mF:Stmt:=top 29
theorem yt:Sc ["thing", "many"] ["thing", "many"] mF:=b8
@[simp] noncomputable def tH:Qe 1 ["thing", "many"] "is_place" mF fun D n Z=>D 1 "is_whole" ["thing"] v0->Z:=
 ⟨_,fun ya hr=>(aD (aP (ig (aM ya hr aJ (aa (aj 0) ak)) (ir (Ed jq lq aA (aj 0) (aj 1))))))⟩
noncomputable def rK:=(tH v0).1
abbrev qU:Stmt:=top 30
theorem CP:Sc ["thing"] ["thing"] qU:=b8
@[simp] noncomputable def xG:Qd 2 ["thing"] "is_lot" qU fun P w K m o Z=>∀{t_MOST_PLACES},DefD P w K m o 2 "are_weights" ["thing", "many"] v0->Gi m "MOST_PLACES" 25 t_MOST_PLACES->Nn m "any"->Nn m "isinstance"->Nn m "len"->Nn m "tuple"->Z:=
 ⟨_,fun ya yb yc yd ye yf hr=>(au (bx (DW.dt (cY (bZ (bH (aQ cX yd (aa (aj 0) (aa (eY (T := "tuple") yf) ak))) (fun _=>rfl))) (dq (bZ (qD jq jq aA (aQ call_lenD ye (aa (aj 0) ak)) (zG yb))))))
  (aD (aP gb))
  aV)
  (aD (aP (ig (aM ya hr aJ (aa (aj 0) (aa (aQ call_lenD ye (aa (aj 0) ak)) ak))) (ir (aQ (Bf hr.hd) yc (aa (aj 0) ak)))))))⟩
noncomputable def wy:=(xG v0).1
abbrev gA:Stmt:=top 31
theorem qZ:Sc ["thing"] ["thing"] gA:=b8
@[simp] noncomputable def jJ:Qe 3 ["thing"] "refuse_no_lot" gA fun D n Z=>D 3 "is_lot" ["thing"] v0->Z:=
 ⟨_,fun ya hr=>(aD (bx (bZ (bH (aM ya hr aJ (aa (aj 0) ak)) (fun _=>rfl)))
  (aD fO)
  aV))⟩
noncomputable def jA:=(jJ v0).1
abbrev gq:Stmt:=top 34
theorem ju:Sc ["thing", "whole"] ["thing"] gq:=b8
@[simp] noncomputable def jH:Qd 3 ["thing", "whole"] "can_be_walked" gq fun P w K m o Z=>∀{t_MOST_PLACES},DefD P w K m o 3 "are_rows" ["thing", "many"] v0->Gi m "MOST_PLACES" 25 t_MOST_PLACES->Nn m "all"->Nn m "isinstance"->Nn m "len"->Nn m "sum"->Nn m "tuple"->Z:=
 ⟨_,fun ya yb yc yd ye yf yg hr=>have nd:=ju.nd;(au (bx (DW.dt (cY (bZ (bH (aQ cX yd (aa (aj 0) (aa (eY (T := "tuple") yg) ak))) (fun _=>rfl))) (cY (bZ (qD jq jq aA (aQ call_lenD ye (aa (aj 0) ak)) (zG yb))) (dq (bZ (bH (aM ya hr aJ (aa (aj 0) (aa (aQ call_lenD ye (aa (aj 0) ak)) ak))) (fun _=>rfl)))))))
  (aD (aP gb))
  aV)
  (au (aZ (i:=1) nd rfl (Or.inr rfl) (aQ (ie hr.hd) yf (aa (aY bA (aj 0) aA) ak)))
  (aD (aP (ig (dH xm (aj 1) aA) (ir (aQ (nQ hr.hd) yc (aa (Bp "row" [1] ["whole"] (rZ (aj 0)) (dH (bf hr.units) (aQ (ie hr.hd) yf (aa (aj 0) ak)) (aj 1))) ak))))))))⟩
noncomputable def jz:=(jH v0).1
abbrev eG:Stmt:=top 35
theorem oU:Sc ["thing"] ["thing"] eG:=b8
@[simp] noncomputable def jb:Qd 1 ["thing"] "refuse_no_steps" eG fun P w K m o Z=>∀{t_MOST_STEPS},DefD P w K m o 1 "is_whole" ["thing"] v0->Gi m "MOST_STEPS" 100 t_MOST_STEPS->Z:=
 ⟨_,fun ya yb hr=>(aD (bx (DW.dt (cY (bZ (bH (aM ya hr aJ (aa (aj 0) ak)) (fun _=>rfl))) (dq (bZ (qD jq jq aA (aj 0) (zG yb))))))
  (aD fO)
  aV))⟩
noncomputable def iY:=(jb v0).1
abbrev cG:Stmt:=inClass (top 39) 1
theorem tU:Sc ["self"] ["self"] cG:=b8
@[simp] noncomputable def lu:Qd 0 ["self"] "Walk.__len__" cG fun P w K m o Z=>∀{C_Walk},OCls K m "Walk" C_Walk ["rows", "whole"]->Nn m "len"->Z:=
 ⟨_,fun ya yb hr=>(aD (aP (aQ call_lenD yb (aa (bw ya (by decide) (aj 0)) ak))))⟩
noncomputable def kJ:=(lu).1
abbrev eF:Stmt:=top 36
theorem oR:Sc ["walk", "thing"] ["walk", "thing"] eF:=b8
@[simp] noncomputable def iZ:Qd 2 ["walk", "thing"] "refuse_no_place" eF fun P w K m o Z=>DefD P w K m o 2 "is_place" ["thing", "many"] v0->MethD P w K m o 1 "Walk" "__len__" "Walk.__len__" cG ["self"] v1->Nn m "len"->Z:=
 ⟨_,fun ya yb yc hr=>(aD (bx (bZ (bH (aM ya hr aJ (aa (aj 1) (aa (aQ (nU yb hr aJ (fun _ _ _ _ _ _ us hl=>by obtain⟨_,rfl⟩:=fQ hl;rfl)) yc (aa (aj 0) ak)) ak))) (fun _=>rfl)))
  (aD fO)
  aV))⟩
noncomputable def iW:=(iZ v0 v1).1
abbrev qW:Stmt:=top 37
theorem CT:Sc ["place", "many"] ["place", "many"] qW:=b8
@[simp] noncomputable def xH:Qe 0 ["place", "many"] "lot_at" qW fun D n Z=>n "range"->n "tuple"->Z:=
 ⟨_,fun ya yb hr=>(aD (aP (fM (T := "tuple") cR yb (aa (Bp "at" [0] ["place"] (cF rfl ya (aa (aj 1) ak)) (jB (aW (bf hr.units) (aj 0) (aj 1)) aA aA)) ak))))⟩
noncomputable def wz:=(xH).1
abbrev oE:Stmt:=top 38
theorem Ab:Sc ["rows", "lot"] ["rows", "lot"] oE:=b8
@[simp] noncomputable def vh:Qe 0 ["rows", "lot"] "stepped" oE fun D n Z=>n "len"->n "range"->n "sum"->n "tuple"->n "zip"->Z:=
 ⟨_,fun ya yb yc yd ye hr=>(aD (aP (fM (T := "tuple") cR yd (aa (lV (own:=["place"]) (js:=[1,0]) (fr:=["lot", "rows"]) .val rfl (by trivial) (cF rfl yb (aa (aQ call_lenD ya (aa (aj 1) ak)) ak)) (fun _ _ _ _ _ _=>(bC (i:=0) (xg ["place", "lot", "rows"]) rfl (Or.inr rfl))) (fun _ _ _ _ _ _=>uh) (fun _ _ _ _ _ _=>(aQ (ie hr.hd) yc (aa (lV (own:=["weight", "row"]) (js:=[0]) (fr:=["place"]) .val rfl (by trivial) (Iz rfl ye (aa (aj 1) (aa (aj 2) ak))) (fun _ _ _ _ _ _=>(nY (n:=2) rfl (cC (bC (i:=0) (xg ["weight", "row", "place"]) rfl (Or.inl rfl)) (cC (bC (i:=1) (xg ["weight", "row", "place"]) rfl (Or.inl rfl)) kW)))) (fun _ _ _ _ _ _=>uh) (fun _ _ _ _ _ _=>(aR uy (aj 0) (aY bA (aj 1) (aj 2))))) ak)))) ak))))⟩
noncomputable def uU:=(vh).1
abbrev gk:Stmt:=inClass (top 39) 0
theorem qY:Sc ["self", "rows"] ["self", "rows"] gk:=b8
@[simp] noncomputable def jG:Qd 4 ["self", "rows"] "Walk.__init__" gk fun P w K m o Z=>∀{C_Walk},DefD P w K m o 4 "can_be_walked" ["thing"] v0->OCls K m "Walk" C_Walk ["rows", "whole"]->Nn m "sum"->Z:=
 ⟨_,fun ya yb yc hr=>(au (bx (bZ (bH (aM ya hr aJ (aa (aj 1) ak)) (fun _=>rfl)))
  (aD fO)
  aV)
  (au (eO yb (by decide) (aj 0) (aj 1))
  (aD (eO yb (by decide) (aj 0) (aQ (ie hr.hd) yc (aa (aY bA (aj 1) aA) ak))))))⟩
noncomputable def jy:=(jG v0).1
abbrev fK:Stmt:=inClass (top 39) 2
theorem uH:Sc ["self", "other"] ["self", "other"] fK:=b8
@[simp] noncomputable def m7:Qd 0 ["self", "other"] "Walk.__eq__" fK fun P w K m o Z=>∀{C_Walk},Gc m "Walk" C_Walk->OCls K m "Walk" C_Walk ["rows", "whole"]->OwnC K m "Walk"->Nn m "isinstance"->Z:=
 ⟨_,fun ya yb yc yd hr=>(aD (aP (ig (aQ (nR yc) yd (aa (aj 1) (aa (rW ya) ak))) (ir (dH (bf hr.units) (bw yb (by decide) (aj 0)) (bw yb (by decide) (aj 1)))))))⟩
noncomputable def mU:=(m7).1
abbrev gm:Stmt:=inClass (top 39) 4
theorem nj:Sc ["self", "lot", "steps", "step"] ["self", "lot", "steps"] gm:=b8
@[simp] noncomputable def jr:Qd 4 ["self", "lot", "steps", "step"] "Walk.after" gm fun P w K m o Z=>∀{C_Walk},DefD P w K m o 4 "refuse_no_lot" ["thing"] v0->DefD P w K m o 2 "refuse_no_steps" ["thing"] v1->DefD P w K m o 1 "stepped" ["rows", "lot"] v2->OCls K m "Walk" C_Walk ["rows", "whole"]->Nn m "len"->Nn m "range"->Z:=
 ⟨_,fun ya yb yc yd ye yf hr=>have nd:=nj.nd;(au (cN (aM ya hr aJ (aa (aj 1) ak)))
  (au (bx (aW (dW hr.units) (aQ call_lenD ye (aa (aj 1) ak)) (aQ call_lenD ye (aa (bw yd (by decide) (aj 0)) ak)))
  (aD fO)
  aV)
  (au (cN (aM yb hr aJ (aa (aj 2) ak)))
  (au (kY 0 PassesOwn.leaving rfl (cF rfl yf (aa (aj 2) ak)) (bC (i:=3) nd rfl (Or.inl rfl))
  (aD (aZ (i:=1) nd rfl (Or.inl rfl) (aM yc hr aJ (aa (bw yd (by decide) (aj 0)) (aa (aj 1) ak))))))
  (aD (aP (aj 1)))))))⟩
noncomputable def nH:=(jr v0 v1 v2).1
abbrev dN:Stmt:=inClass (top 39) 5
theorem nq:Sc ["self", "steps", "many"] ["self", "steps"] dN:=b8
@[simp] noncomputable def oh:Qd 5 ["self", "steps", "many"] "Walk.power" dN fun P w K m o Z=>∀{C_Walk},DefD P w K m o 1 "lot_at" ["place", "many"] v0->MethD P w K m o 5 "Walk" "after" "Walk.after" gm ["self", "lot", "steps"] v1->OCls K m "Walk" C_Walk ["rows", "whole"]->Nn m "len"->Nn m "range"->Nn m "tuple"->Z:=
 ⟨_,fun ya yb yc yd ye yf hr=>have nd:=nq.nd;(au (aZ (i:=2) nd rfl (Or.inr rfl) (aQ call_lenD yd (aa (bw yc (by decide) (aj 0)) ak)))
  (aD (aP (fM (T := "tuple") cR yf (aa (Bp "place" [0,2,1] ["self", "many", "steps"] (cF rfl ye (aa (aj 2) ak)) (wC (ks:=["steps"]) yb hr tu (aj 1) (aa (aM ya hr tu (aa (aj 0) (aa (aj 2) ak))) ak) (IK (aj 3) Br) (fun _ _ _ _ _ _ us ws h1 h2=>by obtain⟨_,rfl⟩:=fQ h1;obtain⟨_,_,rfl⟩:=uw (show us.length=2 by simpa using h2);rfl))) ak)))))⟩
noncomputable def nJ:=(oh v0 v1).1
abbrev iR:Stmt:=top 41
theorem uJ:Sc ["thing", "low"] ["thing", "low"] iR:=b8
@[simp] noncomputable def m9:Qe 1 ["thing", "low"] "refuse_less" iR fun D n Z=>D 1 "is_whole" ["thing"] v0->Z:=
 ⟨_,fun ya hr=>(aD (bx (DW.dt (cY (bZ (bH (aM ya hr aJ (aa (aj 0) ak)) (fun _=>rfl))) (dq (aW lq (aj 0) (aj 1)))))
  (aD fO)
  aV))⟩
noncomputable def mZ:=(m9 v0).1
abbrev fW:Stmt:=top 46
theorem jc:Sc ["walk", "x", "y", "z", "many", "place"] ["walk", "x", "y", "z", "many"] fW:=b8
@[simp] noncomputable def fV:Qe 3 ["walk", "x", "y", "z", "many", "place"] "refuse_no_move" fW fun D n Z=>D 3 "refuse_no_place" ["walk", "thing"] v0->D 2 "refuse_less" ["thing", "low"] v1->Z:=
 ⟨_,fun ya yb hr=>have nd:=jc.nd;(au (kY 0 PassesOwn.leaving rfl (rZ (bz (aa (aj 1) (aa (aj 2) (aa (aj 3) ak))))) (bC (i:=5) nd rfl (Or.inl rfl))
  (aD (cN (aM ya hr aJ (aa (aj 0) (aa (aj 5) ak))))))
  (aD (cN (aM yb hr aJ (aa (aj 4) (aa aA ak))))))⟩
noncomputable def jh:=(fV v0 v1).1
abbrev uC:Stmt:=top 47
theorem xQ:Sc ["walk", "x", "y", "z", "many", "row"] ["walk", "x", "y", "z", "many"] uC:=b8
@[simp] noncomputable def pK:Qd 6 ["walk", "x", "y", "z", "many", "row"] "moved" uC fun P w K m o Z=>∀{F0 C_Walk},ClsD P w K m o 5 "Walk" v0->XTab K m jM F0->OCls K m "Walk" C_Walk ["rows", "whole"]->Nn m "list"->Nn m "tuple"->Z:=
 ⟨_,fun ya yb yc yd ye hr=>have nd:=xQ.nd;(au (bx (DW.dt (cY (aW (bf hr.units) (aj 2) (aj 3)) (dq (aW lq (aY bA (aY bA (bw yc (by decide) (aj 0)) (aj 1)) (aj 2)) (aj 4)))))
  (aD (qC yb (by decide) aL))
  aV)
  (au (aZ (i:=5) nd rfl (Or.inl rfl) (fM (T := "list") rN yd (aa (aY bA (bw yc (by decide) (aj 0)) (aj 1)) ak)))
  (au (ug (aj 5) (aj 2) Eu (aj 4))
  (au (ug (aj 5) (aj 3) xn (aj 4))
  (aD (aP (o9 ya hr aJ (aa (aR bu (aR bu (dI (bw yc (by decide) (aj 0)) fX (fY (aj 1))) (bz (aa (fM (T := "tuple") cR ye (aa (aj 5) ak)) ak))) (dI (bw yc (by decide) (aj 0)) (fY (aR bu (aj 1) aA)) fX)) ak))))))))⟩
noncomputable def ue:=(pK v0).1
abbrev eE:Stmt:=inClass (top 48) 0
theorem oF:Sc ["self", "walk"] ["self", "walk"] eE:=b8
@[simp] noncomputable def dZ:Qd 6 ["self", "walk"] "Keeper.__init__" eE fun P w K m o Z=>∀{C_Walk C_Keeper},MethD P w K m o 6 "Walk" "power" "Walk.power" dN ["self", "steps"] v0->Gc m "Walk" C_Walk->OCls K m "Keeper" C_Keeper ["kept", "marks", "deeds", "powers", "made", "__bool__"]->OwnC K m "Walk"->Nn m "isinstance"->Z:=
 ⟨_,fun ya yb yc yd ye hr=>(au (bx (bZ (bH (aQ (nR yd) ye (aa (aj 1) (aa (rW yb) ak))) (fun _=>rfl)))
  (aD fO)
  aV)
  (au (eO yc (by decide) (aj 0) (aj 1))
  (au (eO yc (by decide) (aj 0) (bz ak))
  (au (eO yc (by decide) (aj 0) (kO ak))
  (au (eO yc (by decide) (aj 0) (kO (aa (gH ya hr aJ (aj 1) (aa aA ak) (fun _ _ _ _ _ _ us hl=>by obtain⟨_,_,rfl⟩:=uw hl;rfl)) ak)))
  (aD (eO yc (by decide) (aj 0) aA)))))))⟩
noncomputable def iU:=(dZ v0).1
abbrev dj:Stmt:=inClass (top 48) 1
theorem pU:Sc ["self"] ["self"] dj:=b8
@[simp] noncomputable def fU:Qd 2 ["self"] "Keeper.__len__" dj fun P w K m o Z=>∀{C_Keeper},MethD P w K m o 1 "Walk" "__len__" "Walk.__len__" cG ["self"] v0->OCls K m "Keeper" C_Keeper ["kept", "marks", "deeds", "powers", "made", "__bool__"]->Nn m "len"->Z:=
 ⟨_,fun ya yb yc hr=>(aD (aP (aQ (nU ya hr aJ (fun _ _ _ _ _ _ us hl=>by obtain⟨_,rfl⟩:=fQ hl;rfl)) yc (aa (bw yb (by decide) (aj 0)) ak))))⟩
noncomputable def jg:=(fU v0).1
abbrev cU:Stmt:=inClass (top 48) 3
theorem oG:Sc ["self"] ["self"] cU:=b8
@[simp] noncomputable def d8:Qd 2 ["self"] "Keeper.__repr__" cU fun P w K m o Z=>∀{C_Keeper},MethD P w K m o 1 "Walk" "__len__" "Walk.__len__" cG ["self"] v0->OCls K m "Keeper" C_Keeper ["kept", "marks", "deeds", "powers", "made", "__bool__"]->Nn m "len"->Z:=
 ⟨_,fun ya yb yc hr=>(aD (aP (Ef (.cons aL (.cons (Bq (aQ (nU ya hr aJ (fun _ _ _ _ _ _ us hl=>by obtain⟨_,rfl⟩:=fQ hl;rfl)) yc (aa (bw yb (by decide) (aj 0)) ak))) (.cons aL (.cons (Bq (aQ call_lenD yc (aa (bw yb (by decide) (aj 0)) ak))) (.cons aL .nil))))))))⟩
noncomputable def iV:=(d8 v0).1
abbrev cQ:Stmt:=inClass (top 48) 5
theorem qX:Sc ["self", "walk", "marks"] ["self", "walk", "marks"] cQ:=b8
@[simp] noncomputable def gj:Qd 6 ["self", "walk", "marks"] "Keeper.change" cQ fun P w K m o Z=>∀{C_Keeper},MethD P w K m o 6 "Walk" "power" "Walk.power" dN ["self", "steps"] v0->OCls K m "Keeper" C_Keeper ["kept", "marks", "deeds", "powers", "made", "__bool__"]->Z:=
 ⟨_,fun ya yb hr=>(au (eO yb (by decide) (aj 0) (aj 1))
  (au (eO yb (by decide) (aj 0) (aj 2))
  (aD (eO yb (by decide) (aj 0) (kO (aa (gH ya hr aJ (aj 1) (aa aA ak) (fun _ _ _ _ _ _ us hl=>by obtain⟨_,_,rfl⟩:=uw hl;rfl)) ak))))))⟩
noncomputable def jx:=(gj v0).1
abbrev du:Stmt:=inClass (top 48) 6
theorem xO:Sc ["self", "walk", "marks"] ["self", "walk", "marks"] du:=b8
@[simp] noncomputable def jR:Qd 7 ["self", "walk", "marks"] "Keeper.do" du fun P w K m o Z=>∀{C_Keeper},MethD P w K m o 7 "Keeper" "change" "Keeper.change" cQ ["self", "walk", "marks"] v0->OCls K m "Keeper" C_Keeper ["kept", "marks", "deeds", "powers", "made", "__bool__"]->Z:=
 ⟨_,fun ya yb hr=>(au (cN (vA PySem.F.plainAttrs_list PySem.F.slot_list_append PySem.F.type_list_append yM (bw yb (by decide) (aj 0)) (aa (bz (aa (bw yb (by decide) (aj 0)) (aa (bw yb (by decide) (aj 0)) ak))) ak)))
  (aD (cN (gH ya hr aJ (aj 0) (aa (aj 1) (aa (aj 2) ak)) (fun _ _ _ _ _ _ us hl=>by obtain⟨_,_,_,rfl⟩:=qL hl;rfl)))))⟩
noncomputable def pX:=(jR v0).1
abbrev fG:Stmt:=inClass (top 48) 7
theorem uF:Sc ["self", "x", "y", "z", "many"] ["self", "x", "y", "z", "many"] fG:=b8
@[simp] noncomputable def fj:Qd 8 ["self", "x", "y", "z", "many"] "Keeper.move" fG fun P w K m o Z=>∀{C_Keeper},DefD P w K m o 4 "refuse_no_move" ["walk", "x", "y", "z", "many"] v0->DefD P w K m o 7 "moved" ["walk", "x", "y", "z", "many"] v1->MethD P w K m o 8 "Keeper" "do" "Keeper.do" du ["self", "walk", "marks"] v2->OCls K m "Keeper" C_Keeper ["kept", "marks", "deeds", "powers", "made", "__bool__"]->Z:=
 ⟨_,fun ya yb yc yd hr=>(au (cN (aM ya hr aJ (aa (bw yd (by decide) (aj 0)) (aa (aj 1) (aa (aj 2) (aa (aj 3) (aa (aj 4) ak)))))))
  (aD (cN (gH yc hr aJ (aj 0) (aa (aM yb hr aJ (aa (bw yd (by decide) (aj 0)) (aa (aj 1) (aa (aj 2) (aa (aj 3) (aa (aj 4) ak)))))) (aa (bw yd (by decide) (aj 0)) ak)) (fun _ _ _ _ _ _ us hl=>by obtain⟨_,_,_,rfl⟩:=qL hl;rfl)))))⟩
noncomputable def iB:=(fj v0 v1 v2).1
abbrev fD:Stmt:=inClass (top 48) 8
theorem uE:Sc ["self"] ["self"] fD:=b8
@[simp] noncomputable def iG:Qd 8 ["self"] "Keeper.mark" fD fun P w K m o Z=>∀{C_Keeper},MethD P w K m o 8 "Keeper" "do" "Keeper.do" du ["self", "walk", "marks"] v0->OCls K m "Keeper" C_Keeper ["kept", "marks", "deeds", "powers", "made", "__bool__"]->Z:=
 ⟨_,fun ya yb hr=>(aD (cN (gH ya hr aJ (aj 0) (aa (bw yb (by decide) (aj 0)) (aa (aR bu (bw yb (by decide) (aj 0)) (bz (aa (bw yb (by decide) (aj 0)) ak))) ak)) (fun _ _ _ _ _ _ us hl=>by obtain⟨_,_,_,rfl⟩:=qL hl;rfl))))⟩
noncomputable def mQ:=(iG v0).1
abbrev fB:Stmt:=inClass (top 48) 9
theorem uD:Sc ["self"] ["self"] fB:=b8
@[simp] noncomputable def eZ:Qd 8 ["self"] "Keeper.back" fB fun P w K m o Z=>∀{F0 C_Keeper},MethD P w K m o 8 "Keeper" "do" "Keeper.do" du ["self", "walk", "marks"] v0->XTab K m jM F0->OCls K m "Keeper" C_Keeper ["kept", "marks", "deeds", "powers", "made", "__bool__"]->Nn m "len"->Z:=
 ⟨_,fun ya yb yc yd hr=>(au (bx (aW (bf hr.units) (aQ call_lenD yd (aa (bw yc (by decide) (aj 0)) ak)) aA)
  (aD (qC yb (by decide) aL))
  aV)
  (aD (cN (gH ya hr aJ (aj 0) (aa (aY bA (bw yc (by decide) (aj 0)) (ik aA)) (aa (dI (bw yc (by decide) (aj 0)) fX (fY (ik aA))) ak)) (fun _ _ _ _ _ _ us hl=>by obtain⟨_,_,_,rfl⟩:=qL hl;rfl)))))⟩
noncomputable def iz:=(eZ v0).1
abbrev fH:Stmt:=inClass (top 48) 10
theorem lE:Sc ["self", "walk", "marks"] ["self"] fH:=b8
@[simp] noncomputable def fu:Qd 7 ["self", "walk", "marks"] "Keeper.undo" fH fun P w K m o Z=>∀{F0 C_Keeper},MethD P w K m o 7 "Keeper" "change" "Keeper.change" cQ ["self", "walk", "marks"] v0->XTab K m jM F0->OCls K m "Keeper" C_Keeper ["kept", "marks", "deeds", "powers", "made", "__bool__"]->Nn m "len"->Z:=
 ⟨_,fun ya yb yc yd hr=>have nd:=lE.nd;(au (bx (aW (bf hr.units) (aQ call_lenD yd (aa (bw yc (by decide) (aj 0)) ak)) aA)
  (aD (qC yb (by decide) aL))
  aV)
  (au (jk (Gy (bw yc (by decide) (aj 0))) (nY (n:=2) rfl (cC (bC (i:=1) nd rfl (Or.inl rfl)) (cC (bC (i:=2) nd rfl (Or.inl rfl)) kW))))
  (aD (cN (gH ya hr aJ (aj 0) (aa (aj 1) (aa (aj 2) ak)) (fun _ _ _ _ _ _ us hl=>by obtain⟨_,_,_,rfl⟩:=qL hl;rfl))))))⟩
noncomputable def iC:=(fu v0).1
abbrev fJ:Stmt:=inClass (top 48) 11
theorem uG:Sc ["self"] ["self"] fJ:=b8
@[simp] noncomputable def iH:Qd 0 ["self"] "Keeper.walk" fJ fun P w K m o Z=>∀{C_Keeper},OCls K m "Keeper" C_Keeper ["kept", "marks", "deeds", "powers", "made", "__bool__"]->Z:=
 ⟨_,fun ya hr=>(aD (aP (bw ya (by decide) (aj 0))))⟩
noncomputable def mR:=(iH).1
abbrev gO:Stmt:=top 50
theorem tV:Sc ["_law_script", "_law_k"] ["_law_script", "_law_k"] gO:=b8
@[simp] noncomputable def lz:Qe 0 ["_law_script", "_law_k"] "_law_cell_at" gO fun D n Z=>n "len"->Z:=
 ⟨_,fun ya hr=>(au (bx (aW lq (aj 1) (aQ call_lenD ya (aa (aj 0) ak)))
  (aD (aP (aY bA (aj 0) (aj 1))))
  aV)
  (aD (aP aA)))⟩
noncomputable def gG:=(lz).1
abbrev j8:Stmt:=top 51
theorem oK:Sc ["_law_seed"] ["_law_seed"] j8:=b8
@[simp] noncomputable def qi:Qe 0 ["_law_seed"] "_law_next" j8 fun _ _ Z=>Z:=
 ⟨_,fun  hr=>have nd:=oK.nd;(au (aZ (i:=0) nd rfl (Or.inl rfl) (aR fZ (aR bu (aj 0) aA) aA))
  (aD (aP (aR fZ (aR bu (aR bu (aR uy (aj 0) (aj 0)) (aR uy aA (aj 0))) aA) aA))))⟩
noncomputable def p6:=(qi).1
abbrev iK:Stmt:=top 52
theorem lF:Sc ["_law_cell", "_law_left"] ["_law_cell"] iK:=b8
@[simp] noncomputable def iI:Qe 0 ["_law_cell", "_law_left"] "_law_pen_of" iK fun D n Z=>n "int"->n "max"->Z:=
 ⟨_,fun ya yb hr=>have nd:=lF.nd;(au (aZ (i:=1) nd rfl (Or.inl rfl) (aQ (rO rfl) yb (aa (aj 0) (aa (aR pI aA (aj 0)) ak))))
  (aD (aP (kO (aa (aj 1) (aa (fM (T := "int") lQ ya (aa (dH xm (aj 1) (aR Hj aA aA)) ak)) (aa (aR fZ (aj 1) aA) ak)))))))⟩
noncomputable def mV:=(iI).1
abbrev jZ:Stmt:=top 53
theorem oJ:Sc ["_law_pen", "_law_size", "_law_found"] ["_law_pen", "_law_size"] jZ:=b8
@[simp] noncomputable def jU:Qe 1 ["_law_pen", "_law_size", "_law_found"] "_law_draw" jZ fun D n Z=>D 1 "_law_next" ["_law_seed"] v0->Z:=
 ⟨_,fun ya hr=>have nd:=oJ.nd;(au (bx (DW.dt (I8 (aW (bf hr.units) (aY bA (aj 0) aA) aA) (GJ (aW sY (aY bA (aj 0) aA) aA))))
  (au (aZ (i:=2) nd rfl (Or.inl rfl) (aR fZ (aY bA (aj 0) aA) (aj 1)))
  (au (jk (aR mq (aY bA (aj 0) aA) (aj 1)) (rY (aj 0) aA tX))
  (aD (aP (aj 2)))))
  aV)
  (au (jk (aM ya hr aJ (aa (aR bu (aM ya hr aJ (aa (aY bA (aj 0) aA) ak)) aA) ak)) (rY (aj 0) aA tX))
  (aD (aP (aR fZ (aR mq (aY bA (aj 0) aA) aA) (aj 1))))))⟩
noncomputable def pZ:=(jU v0).1
abbrev j9:Stmt:=top 54
theorem oM:Sc ["_law_pen", "_law_most", "_law_size", "_law_whole", "_law_way", "_law_rows_here", "_law_x", "_law_some", "_law_row", "_law_ball"] ["_law_pen", "_law_most"] j9:=b8
@[simp] noncomputable def jV:Qe 2 ["_law_pen", "_law_most", "_law_size", "_law_whole", "_law_way", "_law_rows_here", "_law_x", "_law_some", "_law_row", "_law_ball"] "_law_rows" j9 fun D n Z=>D 2 "_law_draw" ["_law_pen", "_law_size"] v0->n "int"->n "len"->n "list"->n "range"->n "tuple"->Z:=
 ⟨_,fun ya yb yc yd ye yf hr=>have nd:=oM.nd;(au (GD (i:=2) (j:=3) (k:=4) rfl nd rfl rfl rfl (by decide) (by decide) (by decide) rfl rfl rfl (aa (aR bu aA (aM ya hr aJ (aa (aj 0) (aa (aj 1) ak)))) (aa (aY bA (bU (aa aA (aa aA (aa aA (aa aA (aa aA (aa aA ak))))))) (aM ya hr aJ (aa (aj 0) (aa aA ak)))) (aa (aM ya hr aJ (aa (aj 0) (aa aA ak))) ak))) rfl)
  (au (aZ (i:=5) nd rfl (Or.inl rfl) (kO ak))
  (au (kY 0 PassesOwn.leaving rfl (cF rfl ye (aa (aj 2) ak)) (bC (i:=6) nd rfl (Or.inr rfl))
  (au (aZ (i:=7) nd rfl (Or.inl rfl) (uZ rfl yd ye (aa (aj 2) ak)))
  (au (bx (aW (bf hr.units) (aj 4) aA)
  (aD (aZ (i:=7) nd rfl (Or.inl rfl) (bU (aa (aM ya hr aJ (aa (aj 0) (aa (aj 2) ak))) (aa (aM ya hr aJ (aa (aj 0) (aa (aj 2) ak))) ak)))))
  aV)
  (au (bx (aW (bf hr.units) (aj 4) aA)
  (aD (aZ (i:=7) nd rfl (Or.inl rfl) (bU (aa (aR fZ (aR bu (aj 6) aA) (aj 2)) ak))))
  aV)
  (au (bx (aW (bf hr.units) (aj 4) aA)
  (aD (aZ (i:=7) nd rfl (Or.inl rfl) (aR bu (lV (own:=["_law_y"]) (js:=[6]) (fr:=["_law_x"]) .val rfl (by trivial) (cF rfl ye (aa (aj 2) ak)) (fun _ _ _ _ _ _=>(bC (i:=0) (xg ["_law_y", "_law_x"]) rfl (Or.inl rfl))) (fun _ _ _ _ _ _=>(um (aW (dW hr.units) (aR fZ (aj 0) aA) (aR fZ (aj 1) aA)))) (fun _ _ _ _ _ _=>(aj 0))) (aR Hg (bU (aa (aj 6) ak)) (fM (T := "int") lQ yb (aa (dH (bf hr.units) (aj 2) aA) ak))))))
  aV)
  (au (bx (aW (bf hr.units) (aj 4) aA)
  (aD (wF (i:=7) (own:=["_law_y"]) (js:=[6]) (fr:=["_law_x"]) .val nd rfl (Or.inl rfl) rfl (by trivial) (cF rfl ye (aa (aj 2) ak)) (fun _ _ _ _ _ _=>(bC (i:=0) (xg ["_law_y", "_law_x"]) rfl (Or.inl rfl))) (fun _ _ _ _ _ _=>(um (aW (bf hr.units) (aR mq (aj 0) aA) (aR mq (aj 1) aA)))) (fun _ _ _ _ _ _=>(aj 0))))
  aV)
  (au (bx (aW (bf hr.units) (aj 4) aA)
  (aD (aZ (i:=7) nd rfl (Or.inl rfl) (uZ rfl yd ye (aa (aR bu (aj 6) aA) ak))))
  aV)
  (au (aZ (i:=8) nd rfl (Or.inl rfl) (aR Hh (bU (aa aA ak)) (aj 2)))
  (au (kY 0 PassesOwn.leaving rfl (cF rfl ye (aa (aj 3) ak)) (bC (i:=9) nd rfl (Or.inl rfl))
  (aD (ug (aj 8) (aY bA (aj 7) (aM ya hr aJ (aa (aj 0) (aa (aQ call_lenD yc (aa (aj 7) ak)) ak)))) xn aA)))
  (aD (cN (vA PySem.F.plainAttrs_list PySem.F.slot_list_append PySem.F.type_list_append yM (aj 5) (aa (fM (T := "tuple") cR yf (aa (aj 8) ak)) ak)))))))))))))
  (aD (aP (fM (T := "tuple") cR yf (aa (aj 5) ak)))))))⟩
noncomputable def p7:=(jV v0).1
abbrev jX:Stmt:=top 55
theorem oH:Sc ["_law_pen", "_law_rows_here", "_law_way", "_law_size", "_law_x", "_law_some", "_law_y", "_law_much"] ["_law_pen", "_law_rows_here"] jX:=b8
@[simp] noncomputable def jT:Qe 2 ["_law_pen", "_law_rows_here", "_law_way", "_law_size", "_law_x", "_law_some", "_law_y", "_law_much"] "_law_deed" jX fun D n Z=>D 2 "_law_draw" ["_law_pen", "_law_size"] v0->n "enumerate"->n "int"->n "len"->n "max"->Z:=
 ⟨_,fun ya yb yc yd ye hr=>have nd:=oH.nd;(au (Bs (i:=2) (j:=3) rfl nd rfl rfl (by decide) rfl rfl (aa (aM ya hr aJ (aa (aj 0) (aa aA ak))) (aa (aQ call_lenD yd (aa (aj 1) ak)) ak)) rfl)
  (au (bx (aW lq (aj 2) aA)
  (au (aZ (i:=4) nd rfl (Or.inl rfl) (aM ya hr aJ (aa (aj 0) (aa (aj 3) ak))))
  (au (wF (i:=5) (own:=["_law_y", "_law_weight"]) (js:=[]) (fr:=[]) .val nd rfl (Or.inl rfl) rfl (by trivial) (Gz rfl yb (aa (aY bA (aj 1) (aj 4)) ak)) (fun _ _ _ _ _ _=>(nY (n:=2) rfl (cC (bC (i:=0) (xg ["_law_y", "_law_weight"]) rfl (Or.inl rfl)) (cC (bC (i:=1) (xg ["_law_y", "_law_weight"]) rfl (Or.inl rfl)) kW)))) (fun _ _ _ _ _ _=>(um (aW sY (aj 1) aA))) (fun _ _ _ _ _ _=>(aj 0)))
  (au (aZ (i:=6) nd rfl (Or.inl rfl) (jB (aW sY (aM ya hr aJ (aa (aj 0) (aa aA ak))) aA) (aY bA (aj 5) (aM ya hr aJ (aa (aj 0) (aa (aQ call_lenD yd (aa (aj 5) ak)) ak)))) (aM ya hr aJ (aa (aj 0) (aa (aj 3) ak)))))
  (au (aZ (i:=7) nd rfl (Or.inl rfl) (aR bu (aR bu aA (aM ya hr aJ (aa (aj 0) (aa (aQ (rO rfl) ye (aa aA (aa (aY bA (aY bA (aj 1) (aj 4)) (aj 6)) ak))) ak)))) (fM (T := "int") lQ yc (aa (dH (bf hr.units) (aM ya hr aJ (aa (aj 0) (aa aA ak))) aA) ak))))
  (aD (aP (bz (aa aL (aa (aj 4) (aa (aj 6) (aa (aM ya hr aJ (aa (aj 0) (aa (aj 3) ak))) (aa (aj 7) ak))))))))))))
  aV)
  (aD (aP (bz (aa (aY bA (bU (aa aL (aa aL (aa aL (aa aL (aa aL (aa aL ak))))))) (aR pI (aj 2) aA)) ak))))))⟩
noncomputable def pY:=(jT v0).1
abbrev mC:Stmt:=top 56
theorem qj:Sc ["_law_past", "_law_deed_here", "_law_rows_here", "_law_marks", "_law_x", "_law_y", "_law_z", "_law_much", "_law_row"] ["_law_past", "_law_deed_here"] mC:=b8
@[simp] noncomputable def my:Qe 0 ["_law_past", "_law_deed_here", "_law_rows_here", "_law_marks", "_law_x", "_law_y", "_law_z", "_law_much", "_law_row"] "_law_due" mC fun D n Z=>n "len"->n "list"->n "tuple"->Z:=
 ⟨_,fun ya yb yc hr=>have nd:=qj.nd;(au (jk (aY bA (aj 0) (ik aA)) (nY (n:=2) rfl (cC (bC (i:=2) nd rfl (Or.inl rfl)) (cC (bC (i:=3) nd rfl (Or.inl rfl)) kW))))
  (au (bx (aW (bf hr.units) (aY bA (aj 1) aA) aL)
  (aD (aP (jB (aW sY (aQ call_lenD ya (aa (aj 0) ak)) aA) (dI (aj 0) fX (fY (ik aA))) (bz (aa aL ak)))))
  aV)
  (au (bx (aW (bf hr.units) (aY bA (aj 1) aA) aL)
  (aD (aP (aR bu (aj 0) (bU (aa (bz (aa (aj 2) (aa (aR bu (aj 3) (bz (aa (aj 2) ak))) ak))) ak)))))
  aV)
  (au (bx (aW (bf hr.units) (aY bA (aj 1) aA) aL)
  (aD (aP (jB (aW (dW hr.units) (aj 3) (bz ak)) (aR bu (aj 0) (bU (aa (bz (aa (aY bA (aj 3) (ik aA)) (aa (dI (aj 3) fX (fY (ik aA))) ak))) ak))) (bz (aa aL ak)))))
  aV)
  (au (jk (dI (aj 1) (fY aA) fX) (nY (n:=4) rfl (cC (bC (i:=4) nd rfl (Or.inl rfl)) (cC (bC (i:=5) nd rfl (Or.inl rfl)) (cC (bC (i:=6) nd rfl (Or.inl rfl)) (cC (bC (i:=7) nd rfl (Or.inl rfl)) kW))))))
  (au (bx (DW.dt (cY (aW (bf hr.units) (aj 5) (aj 6)) (dq (aW lq (aY bA (aY bA (aj 2) (aj 4)) (aj 5)) (aj 7)))))
  (aD (aP (bz (aa aL ak))))
  aV)
  (au (aZ (i:=8) nd rfl (Or.inl rfl) (fM (T := "list") rN yb (aa (aY bA (aj 2) (aj 4)) ak)))
  (au (jk (aR pI (aY bA (aj 8) (aj 5)) (aj 7)) (rY (aj 8) (aj 5) tX))
  (au (jk (aR bu (aY bA (aj 8) (aj 6)) (aj 7)) (rY (aj 8) (aj 6) tX))
  (aD (aP (aR bu (aj 0) (bU (aa (bz (aa (aR bu (aR bu (dI (aj 2) fX (fY (aj 4))) (bz (aa (fM (T := "tuple") cR yc (aa (aj 8) ak)) ak))) (dI (aj 2) (fY (aR bu (aj 4) aA)) fX)) (aa (aj 3) ak))) ak))))))))))))))⟩
noncomputable def rH:=(my).1
abbrev jY:Stmt:=top 57
theorem xP:Sc ["_law_keeper", "_law_deed_here"] ["_law_keeper", "_law_deed_here"] jY:=b8
@[simp] noncomputable def gR:Qd 9 ["_law_keeper", "_law_deed_here"] "_law_done" jY fun P w K m o Z=>MethD P w K m o 9 "Keeper" "move" "Keeper.move" fG ["self", "x", "y", "z", "many"] v0->MethD P w K m o 9 "Keeper" "mark" "Keeper.mark" fD ["self"] v1->MethD P w K m o 9 "Keeper" "back" "Keeper.back" fB ["self"] v2->MethD P w K m o 8 "Keeper" "undo" "Keeper.undo" fH ["self"] v3->Z:=
 ⟨_,fun ya yb yc yd hr=>(au (bx (aW (bf hr.units) (aY bA (aj 1) aA) aL)
  (aD (aP (wC (ks:=["many"]) ya hr aJ (aj 0) (aa (aY bA (aj 1) aA) (aa (aY bA (aj 1) aA) (aa (aY bA (aj 1) aA) ak))) (IK (aY bA (aj 1) aA) Br) (fun _ _ _ _ _ _ us ws h1 h2=>by obtain⟨_,rfl⟩:=fQ h1;obtain⟨_,_,_,_,rfl⟩:=El (show us.length=4 by simpa using h2);rfl))))
  aV)
  (au (bx (aW (bf hr.units) (aY bA (aj 1) aA) aL)
  (aD (aP (ji yb hr aJ (aj 0) (fun _ _ _ _ _ _ us hl=>by obtain⟨_,rfl⟩:=fQ hl;rfl))))
  aV)
  (aD (aP (jB (aW (bf hr.units) (aY bA (aj 1) aA) aL) (ji yc hr aJ (aj 0) (fun _ _ _ _ _ _ us hl=>by obtain⟨_,rfl⟩:=fQ hl;rfl)) (ji yd hr aJ (aj 0) (fun _ _ _ _ _ _ us hl=>by obtain⟨_,rfl⟩:=fQ hl;rfl)))))))⟩
noncomputable def jN:=(gR v0 v1 v2 v3).1
abbrev iM:Stmt:=top 61
theorem lG:Sc ["_law_keeper", "_law_past", "_law_rows_here", "_law_text", "_law_walk"] ["_law_keeper", "_law_past"] iM:=b8
@[simp] noncomputable def iJ:Qd 6 ["_law_keeper", "_law_past", "_law_rows_here", "_law_text", "_law_walk"] "_law_stands" iM fun P w K m o Z=>∀{C_Walk C_Keeper},ClsD P w K m o 5 "Walk" v0->MethD P w K m o 1 "Keeper" "walk" "Keeper.walk" fJ ["self"] v1->MethD P w K m o 1 "Walk" "__eq__" "Walk.__eq__" fK ["self", "other"] v2->MethD P w K m o 3 "Keeper" "__repr__" "Keeper.__repr__" cU ["self"] v3->MethD P w K m o 3 "Keeper" "__len__" "Keeper.__len__" dj ["self"] v4->Gc m "Walk" C_Walk->OCls K m "Keeper" C_Keeper ["kept", "marks", "deeds", "powers", "made", "__bool__"]->OCls K m "Walk" C_Walk ["rows", "whole"]->OwnC K m "Walk"->Nn m "bool"->Nn m "isinstance"->Nn m "len"->Nn m "repr"->Nn m "str"->Nn m "sum"->Z:=
 ⟨_,fun ya yb yc yd ye yf yg yh yi yj yk yl ym yn yo hr=>have nd:=lG.nd;(au (aZ (i:=2) nd rfl (Or.inl rfl) (aY bA (aY bA (aj 1) (ik aA)) aA))
  (au (aZ (i:=3) nd rfl (Or.inl rfl) (aR pH (aR pH (aR pH (aR pH aL (fM (T := "str") uW yn (aa (aQ call_lenD yl (aa (aj 2) ak)) ak))) aL) (fM (T := "str") uW yn (aa (aR pI (aQ call_lenD yl (aa (aj 1) ak)) aA) ak))) aL))
  (au (aZ (i:=4) nd rfl (Or.inl rfl) (ji yb hr aJ (aj 0) (fun _ _ _ _ _ _ us hl=>by obtain⟨_,rfl⟩:=fQ hl;rfl)))
  (au (bx (DW.dt (cY (bZ (bH (aQ (nR yi) yk (aa (aj 4) (aa (rW yf) ak))) (fun _=>rfl))) (cY (aW (dW hr.units) (aQ (rP hr.gd hr.units) ym (aa (bw yh (by decide) (aj 4)) ak)) (aQ (rP hr.gd hr.units) ym (aa (aj 2) ak))) (dq (aW (dW hr.units) (bw yh (by decide) (aj 4)) (aQ (ie hr.hd) yo (aa (aY bA (aj 2) aA) ak)))))))
  (aD (aP gb))
  aV)
  (aD (aP (ig (dH (bf hr.units) (bU (aa (aQ (Bj ye hr aJ (fun _ _ _ _ _ _ us hl=>by obtain⟨_,rfl⟩:=fQ hl;rfl)) yl (aa (aj 0) ak)) (aa (fM (T := "bool") (zr ye yg (by decide) hr aJ (fun _ _ _ _ _ _ us hl=>by obtain⟨_,rfl⟩:=fQ hl;rfl)) yj (aa (aj 0) ak)) (aa (aQ (zz yd hr aJ (fun _ _ _ _ _ _ us hl=>by obtain⟨_,rfl⟩:=fQ hl;rfl)) ym (aa (aj 0) ak)) ak)))) (bU (aa (aQ call_lenD yl (aa (aj 2) ak)) (aa gb (aa (aj 3) ak))))) (ir (dH (JW yc hr aJ (fun _ _ _ _ _ _ us hl=>by obtain⟨_,_,rfl⟩:=uw hl;rfl)) (ji yb hr aJ (aj 0) (fun _ _ _ _ _ _ us hl=>by obtain⟨_,rfl⟩:=fQ hl;rfl)) (o9 ya hr aJ (aa (aj 2) ak)))))))))))⟩
noncomputable def mW:=(iJ v0 v1 v2 v3 v4).1
end
abbrev lL:List Str:=["BadWalk", "NoBound", "NoDeed", "NoFraction", "NoLine", "NoLot", "NoMark", "NoMove", "NoNumber", "NoParts", "NoPlace", "NoPlan", "NoRest", "NoRule", "NoSet", "NoSteps", "NoText", "NoWalk", "TooMany", "Unlike"]
abbrev dR:Stmt:=top 59
theorem nu:FnScope ["_law_e", "_law_marks", "_law_words", "_law_flag"] ["_law_e"] (defScope dR):=tW rfl rfl rfl rfl (by decide +kernel)
@[simp] noncomputable def dJ:{b:Addr->Str->ao->DM Fl // ∀{P w K mg base f cdv A outer s H}{y:Addr}{oe:Obj}{c:Str}{C:Addr} (mL:∀x∈lL,∃C,mg x=some (.ref C)) (z_ArithmeticError:Nn mg "ArithmeticError") (z_LookupError:Nn mg "LookupError") (z_RuntimeError:Nn mg "RuntimeError") (z_TypeError:Nn mg "TypeError") (z_ValueError:Nn mg "ValueError") (z_isinstance:Nn mg "isinstance") (hr:Rm 0 A "_law_flags" dR s f cdv) (FK:FlK K mg lL c C) (ho_:oe.cls=.ref C) (h0_:s.heap.get? y=some oe) (hn_:H y=none) (hf_:y∉frs outer),DSs (Fy P w K mg base ["_law_e", "_law_marks", "_law_words", "_law_flag"] "_law_flags" (defScope dR) f cdv (A.mark (some (.ref y))) outer s H) E0 (defBody dR) (b y c)}:=
 ⟨fun y c=>_,fun {P w K mg base f cdv A outer s H y oe c C} mL z_ArithmeticError z_LookupError z_RuntimeError z_TypeError z_ValueError z_isinstance hr FK ho_ h0_ hn_ hf_=>have nd:=nu.nd;(au (aZ (i:=1) nd rfl (Or.inl rfl) (bU (aa (aQ (bj FK ho_ h0_ hn_ hf_) z_isinstance (aa (aj 0) (aa (bK mL) ak))) (aa (aQ (bj FK ho_ h0_ hn_ hf_) z_isinstance (aa (aj 0) (aa (bK mL) ak))) (aa (aQ (bj FK ho_ h0_ hn_ hf_) z_isinstance (aa (aj 0) (aa (bK mL) ak))) (aa (aQ (bj FK ho_ h0_ hn_ hf_) z_isinstance (aa (aj 0) (aa (bK mL) ak))) ak))))))
  (au (aZ (i:=1) nd rfl (Or.inl rfl) (aR bu (aj 1) (bU (aa (aQ (bj FK ho_ h0_ hn_ hf_) z_isinstance (aa (aj 0) (aa (bK mL) ak))) (aa (aQ (bj FK ho_ h0_ hn_ hf_) z_isinstance (aa (aj 0) (aa (bK mL) ak))) (aa (aQ (bj FK ho_ h0_ hn_ hf_) z_isinstance (aa (aj 0) (aa (bK mL) ak))) (aa (aQ (bj FK ho_ h0_ hn_ hf_) z_isinstance (aa (aj 0) (aa (bK mL) ak))) ak)))))))
  (au (aZ (i:=1) nd rfl (Or.inl rfl) (aR bu (aj 1) (bU (aa (aQ (bj FK ho_ h0_ hn_ hf_) z_isinstance (aa (aj 0) (aa (bK mL) ak))) (aa (aQ (bj FK ho_ h0_ hn_ hf_) z_isinstance (aa (aj 0) (aa (bK mL) ak))) (aa (aQ (bj FK ho_ h0_ hn_ hf_) z_isinstance (aa (aj 0) (aa (bK mL) ak))) (aa (aQ (bj FK ho_ h0_ hn_ hf_) z_isinstance (aa (aj 0) (aa (bK mL) ak))) ak)))))))
  (au (aZ (i:=1) nd rfl (Or.inl rfl) (aR bu (aj 1) (bU (aa (aQ (bj FK ho_ h0_ hn_ hf_) z_isinstance (aa (aj 0) (aa (bK mL) ak))) (aa (aQ (bj FK ho_ h0_ hn_ hf_) z_isinstance (aa (aj 0) (aa (bK mL) ak))) (aa (aQ (bj FK ho_ h0_ hn_ hf_) z_isinstance (aa (aj 0) (aa (bK mL) ak))) (aa (aQ (bj FK ho_ h0_ hn_ hf_) z_isinstance (aa (aj 0) (aa (bK mL) ak))) ak)))))))
  (au (aZ (i:=1) nd rfl (Or.inl rfl) (aR bu (aj 1) (bU (aa (aQ (bj FK ho_ h0_ hn_ hf_) z_isinstance (aa (aj 0) (aa (bK mL) ak))) (aa (aQ (bj FK ho_ h0_ hn_ hf_) z_isinstance (aa (aj 0) (aa (bK mL) ak))) (aa (aQ (bj FK ho_ h0_ hn_ hf_) z_isinstance (aa (aj 0) (aa (bK mL) ak))) (aa (aQ (bj FK ho_ h0_ hn_ hf_) z_isinstance (aa (aj 0) (aa (bK mL) ak))) ak)))))))
  (au (bx (DW.dt (cY (bZ (bH (aQ (bj FK ho_ h0_ hn_ hf_) z_isinstance (aa (aj 0) (aa (eY (T := "ValueError") z_ValueError) ak))) (fun _=>rfl))) (dq (bH (aQ (bj FK ho_ h0_ hn_ hf_) z_isinstance (aa (aj 0) (aa (bz (aa (eY (T := "LookupError") z_LookupError) (aa (eY (T := "TypeError") z_TypeError) (aa (eY (T := "ArithmeticError") z_ArithmeticError) (aa (eY (T := "RuntimeError") z_RuntimeError) ak))))) ak))) (fun _=>rfl)))))
  (aD (aP (bz (aa aL ak))))
  aV)
  (au (aZ (i:=2) nd rfl (Or.inl rfl) (bU (aa aL (aa aL (aa aL (aa aL (aa aL (aa aL (aa aL (aa aL (aa aL (aa aL (aa aL ak)))))))))))))
  (au (aZ (i:=2) nd rfl (Or.inl rfl) (aR bu (aj 2) (bU (aa aL (aa aL (aa aL (aa aL (aa aL (aa aL (aa aL (aa aL (aa aL ak))))))))))))
  (au (bx (aW (dW hr.units) (vA PySem.F.plainAttrs_list PySem.F.slot_list_count PySem.F.type_list_count Ce (aj 1) (aa gb ak)) aA)
  (aD (aP (bz (aa aL ak))))
  aV)
  (au (aZ (i:=3) nd rfl (Or.inl rfl) (aY bA (aj 2) (vA PySem.F.plainAttrs_list PySem.F.slot_list_index PySem.F.type_list_index Cg (aj 1) (aa gb ak))))
  (au (bx (aW (bf hr.units) (aj 3) aL)
  (aD (aP (bz (aa (aj 3) (aa qy (aa qy ak))))))
  aV)
  (aD (aP (jB (aW (bf hr.units) (aj 3) aL) (bz (aa (aj 3) (aa qy ak))) (bz (aa (aj 3) ak))))))))))))))))⟩
noncomputable def cH:Addr->Str->ao->DM Fl:=(dJ).1
abbrev eV:Stmt:=top 60
theorem oN:FnScope ["_law_call", "_law_e"] ["_law_call"] (defScope eV):=tW rfl rfl rfl rfl (by decide +kernel)
@[simp] noncomputable def gU(W:Str->D):{b:DM D->ao->DM Fl // ∀{P w K mg base f cdv A outer s H E ρ g th k F0} (XT:XTab K mg jM F0) (m_FadeError:Gc mg "FadeError" F0) (FG:FlgD P w K mg base 0 "_law_flags" jM W) (hk:1≤k) (ht:ThD P w K mg base k outer s H ρ g th) (hq:Rm k A "_law_said" eV s f cdv),ASs (bO P w K mg base ["_law_call", "_law_e"] "_law_said" (defScope eV) f cdv A outer s H E) E (HY 0 g ρ H) (defBody eV) (b th)}:=
 ⟨_,fun XT m_FadeError FG hk ht hq=>have hr:=Room.mono hq hk;have nd:=oN.nd;(yD (Ih 2 (fh:=fun c=>fun _=>pure (Fl.rt (W c))) (i:=1) XT rfl rfl rfl rfl rfl nd rfl rfl m_FadeError (fun pins_ Eh_=>(yD (Ig (Gv pe_str (Dr hq (Lj rfl rfl rfl) ht)))))
  (fun c C y oe hc_ hm_ ho_ xa_=>(GF (i:=1) hr FG hc_ hm_ ho_)) (fun y c M r h=>by rw[←h];simp[qG,Nh,KZ])))⟩
noncomputable def jO(W:Str->D):DM D->ao->DM Fl:=(gU W).1
abbrev gY:Stmt:=top 58
theorem oO:FnScope ["_law_keeper", "_law_past", "_law_deed_here", "_law_due_here", "_law_said_here"] ["_law_keeper", "_law_past", "_law_deed_here"] (defScope gY):=tW rfl rfl rfl rfl (by decide +kernel)
local macro_rules | `(tactic| trivial)=>`(tactic| (repeat' apply And.intro)<;>first | exact True.intro | rfl | exact⟨_,rfl⟩ | exact Or.inl rfl)
@[simp] noncomputable def jW(F__law_due F__law_done:Fn)(F__law_said:DM D->DM D):{b // ∀{P w K mg base f cdv A outer s H E c_ P_} (D__law_due:DefD P w K mg base 1 "_law_due" ["_law_past", "_law_deed_here"] F__law_due) (D__law_done:DefD P w K mg base 10 "_law_done" ["_law_keeper", "_law_deed_here"] F__law_done) (z_isinstance:Nn mg "isinstance") (z_tuple:Nn mg "tuple") (H__law_said:HrdD P w K mg base (12+1) "_law_said" F__law_said) (TB:TabD mg base c_ P_) (hC:cdv=.ref c_) (hP:∃ps,H P_=some (.tbl ps)) (hr:Rm 14 A "_law_step" gY s f cdv),Ds P w K mg base ["_law_keeper", "_law_past", "_law_deed_here", "_law_due_here", "_law_said_here"] "_law_step" gY f cdv A outer s H E b}:=
 ⟨_,fun D__law_due D__law_done z_isinstance z_tuple H__law_said TB hC hP hr=>have nd:=oO.nd;(au (aZ (i:=3) nd rfl (Or.inl rfl) (aM D__law_due hr aJ (aa (aj 1) (aa (aj 2) ak))))
  (au (aZ (i:=4) nd rfl (Or.inl rfl) (Iu [0,2] ["_law_keeper", "_law_deed_here"] H__law_said hr aJ TB hC hP (fun hr=>(aM D__law_done hr Li (aa (aj 0) (aa (aj 1) ak)))) ⟨⟨rfl,rfl,rfl,by decide +kernel,by decide,BP rfl,by decide +kernel⟩,rfl,Dc (by trivial),rfl,By (by trivial)⟩))
  (au (bx (bH (aQ cX z_isinstance (aa (aj 3) (aa (eY (T := "tuple") z_tuple) ak))) (fun _=>rfl))
  (aD (aP (jB (aW (bf hr.units) (aj 4) (aj 3)) (aj 1) nW)))
  aV)
  (aD (aP (jB (aW (bf hr.units) (aj 4) (bz (aa aL (aa nW ak)))) (aj 3) nW))))))⟩
noncomputable def p8(F__law_due F__law_done:Fn)(F__law_said:DM D->DM D):ao->DM Fl:=(jW F__law_due F__law_done F__law_said).1
abbrev vI:Stmt:=top 62
theorem CQ:FnScope ["_law_script", "_law_pen", "_law_rows_here", "_law_first", "_law_keeper", "_law_past", "_law_turn"] ["_law_script"] (defScope vI):=tW rfl rfl rfl rfl (by decide +kernel)
@[simp] noncomputable def zV(F__law_cell_at F__law_pen_of F__law_rows F__law_stands F__law_deed F_Walk F_Keeper:Fn)(F__law_step:Fn):{b // ∀{P w K mg base f cdv A outer s H E P__law_step C_Walk} (D__law_cell_at:DefD P w K mg base 1 "_law_cell_at" ["_law_script", "_law_k"] F__law_cell_at) (D__law_pen_of:DefD P w K mg base 1 "_law_pen_of" ["_law_cell"] F__law_pen_of) (D__law_rows:DefD P w K mg base 3 "_law_rows" ["_law_pen", "_law_most"] F__law_rows) (D__law_stands:DefD P w K mg base 7 "_law_stands" ["_law_keeper", "_law_past"] F__law_stands) (D__law_deed:DefD P w K mg base 3 "_law_deed" ["_law_pen", "_law_rows_here"] F__law_deed) (W_Walk:ClsD P w K mg base 5 "Walk" F_Walk) (W_Keeper:ClsD P w K mg base 7 "Keeper" F_Keeper) (O_Walk:OCls K mg "Walk" C_Walk ["rows", "whole"]) (z_len:Nn mg "len") (z_range:Nn mg "range")  (T__law_step:DefT P w K mg base 15 "_law_step" ["_law_keeper", "_law_past", "_law_deed_here"] P__law_step F__law_step) (hP__law_step:∃qs,H P__law_step=some (.tbl qs)) (hr:Rm 15 A "law" vI s f cdv),Ds P w K mg base ["_law_script", "_law_pen", "_law_rows_here", "_law_first", "_law_keeper", "_law_past", "_law_turn"] "law" vI f cdv A outer s H E b}:=
 ⟨_,fun D__law_cell_at D__law_pen_of D__law_rows D__law_stands D__law_deed W_Walk W_Keeper O_Walk z_len z_range T__law_step hP__law_step hr=>have nd:=CQ.nd;(au (aZ (i:=1) nd rfl (Or.inl rfl) (aM D__law_pen_of hr aJ (aa (aM D__law_cell_at hr aJ (aa (aj 0) (aa aA ak))) ak)))
  (au (aZ (i:=2) nd rfl (Or.inl rfl) (aM D__law_rows hr aJ (aa (aj 1) (aa aA ak))))
  (au (aZ (i:=3) nd rfl (Or.inl rfl) (o9 W_Walk hr aJ (aa (aj 2) ak)))
  (au (Bs (i:=4) (j:=5) rfl nd rfl rfl (by decide) rfl rfl (aa (o9 W_Keeper hr aJ (aa (aj 3) ak)) (aa (bU (aa (bz (aa (aj 2) (aa (bz ak) ak))) ak)) ak)) rfl)
  (au (bx (bZ (bH (aM D__law_stands hr aJ (aa (aj 4) (aa (aj 5) ak))) (fun _=>rfl)))
  (aD (aP gb))
  aV)
  (au (kY 0 PassesOwn.leaving rfl (cF rfl z_range (aa aA ak)) (bC (i:=6) nd rfl (Or.inl rfl))
  (au (aZ (i:=5) nd rfl (Or.inl rfl) (qx T__law_step hP__law_step hr aJ (aa (aj 4) (aa (aj 5) (aa (aM D__law_deed hr aJ (aa (aj 1) (aa (aY bA (aY bA (aj 5) (ik aA)) aA) ak))) ak)))))
  (aD (bx (DW.dt (cY (aW Cp (aj 5) nW) (cY (bZ (bH (aM D__law_stands hr aJ (aa (aj 4) (aa (aj 5) ak))) (fun _=>rfl))) (dq (aW (dW hr.units) (bw O_Walk (by decide) (aj 3)) (aj 2))))))
  (aD (aP gb))
  aV))))
  (au (kY 0 PassesOwn.leaving rfl (cF rfl z_range (aa (aQ call_lenD z_len (aa (aj 5) ak)) ak)) (bC (i:=6) nd rfl (Or.inl rfl))
  (au (aZ (i:=5) nd rfl (Or.inl rfl) (qx T__law_step hP__law_step hr aJ (aa (aj 4) (aa (aj 5) (aa (bz (aa aL ak)) ak)))))
  (aD (bx (DW.dt (cY (aW Cp (aj 5) nW) (dq (bZ (bH (aM D__law_stands hr aJ (aa (aj 4) (aa (aj 5) ak))) (fun _=>rfl))))))
  (aD (aP gb))
  aV))))
  (aD (aP (ig (dH (bf hr.units) (aj 5) (bU (aa (bz (aa (aj 2) (aa (bz ak) ak))) ak))) (ir (dH (bf hr.units) (qx T__law_step hP__law_step hr aJ (aa (aj 4) (aa (aj 5) (aa (bz (aa aL ak)) ak)))) (aj 5)))))))))))))⟩
noncomputable def Fx(F__law_cell_at F__law_pen_of F__law_rows F__law_stands F__law_deed F_Walk F_Keeper:Fn)(F__law_step:Fn):ao->DM Fl:=(zV F__law_cell_at F__law_pen_of F__law_rows F__law_stands F__law_deed F_Walk F_Keeper F__law_step).1
end K
set_option exponentiation.threshold 20000
namespace K
open PySem L2 L3 N10
theorem aO:(∀(α:Type) (a:α) (l:List α),(a::l)[0]?=some a)∧(∀(α:Type) (a:α) (l:List α) (i:Nat),(a::l)[i+1]?=l[i]?)∧(∀(α:Type) (x:Option α),(some x).join=x)∧(∀(α:Type) (a:α),(opt (some a):DM α)=pure a)∧∀(α β:Type) (a:α) (f:α->DM β),((pure a:DM α)>>=f)=f a:=⟨fun _ _ _=>rfl,fun _ _ _ _=>rfl,fun _ _=>rfl,fun _ _=>Ke _,fun _ _ _ _=>az _ _⟩
theorem cA:(∀(α:Type) (a b:α) (l:List α) (i:Nat),(a::l).set (i+1) b=a::l.set i b)∧∀(α:Type) (a b:α) (l:List α),(a::l).set 0 b=b::l:=⟨fun _ _ _ _ _=>rfl,fun _ _ _ _=>rfl⟩
noncomputable def nG:=aK 1 1 rM
noncomputable def uP:=aK 2 2 (mY nG)
theorem sJ(n:Nat):nG [nD n]=pure (.bl true):=by
 have a:(rd (gh [nD n,.ty "int"]):DM D)=pure (.bl true):=tO (t := "int") (fun _=>rfl) (by decide)
 have b:(rd (gh [nD n,.ty "bool"]):DM D)=pure (.bl false):=tO (t := "int") (fun _=>rfl) (by decide)
 simp[nG,rM,a,b]
theorem Bb {l:List Nat} (hl:l.length≤1000):uP [nT l,.int (l.length:Int)]=pure (.bl true):=by
 have a:(rd (gh [nT l,.ty "tuple"]):DM D)=pure (.bl true):=tO (t := "tuple") (fun _=>rfl) (by decide)
 have ln:(rd (cW [nT l]):DM D)=pure (.int (l.length:Int)):=by simp[nT]
 simp[uP,mY,a,ln,bY,cZ]
 show (dY (bN _ _ _ (l.map nD) _ _)>>=_)=_
 rw[K4 (fun _=>true) (fun _=>.bl true) (by simpa using Nat.le_trans hl (by decide)) (fun _ _=>rfl) (fun d hd _=>?_) (k':=fun l=>rd (ud [.lst l])) (fun _=>rfl)]
 ·have:((l.map nD).filter (fun _=>true)).map (fun _=>D.bl true)=(l.map fun _=>true).map D.bl:=by
   rw[List.filter_eq_self.mpr (fun _ _=>rfl),List.map_map,List.map_map];rfl
  have q:(l.map fun _=>true).all id=true:=by rw[List.all_eq_true];intro x hx;obtain⟨_,_,rfl⟩:=List.mem_map.mp hx;rfl
  rw[this,Cw,q]
 ·obtain⟨n,_,rfl⟩:=List.mem_map.mp hd
  have:=sJ n
  unfold nD at this ⊢
  simp[this]
theorem za:∀ {l:List Nat}{n:Nat},n∈l->n≤l.sum
 |a::l,n,h=>by
   rw[List.sum_cons]
   rcases List.mem_cons.mp h with rfl | h
   ·omega
   ·have:=za h;omega
noncomputable def vK:=aK 2 2 gG
theorem Ik (cs:List Int) (k:Nat):∃ c:Int,vK [.scr cs,nD k]=pure (.int c):=by
 by_cases h:k<cs.length
 ·have e:decide ((k:Int)<(cs.length:Int))=true:=decide_eq_true (by omega)
  have ix:(rd (bV (.scr cs) (.int (k:Int))):DM D)=pure (.int cs[k]):=bJ fun M=>by
   show (atI cs (k:Int)).map _=_
   rw[kI (List.getElem?_eq_getElem h)];rfl
  refine⟨cs[k],?_⟩
  simp[vK,gG,nD,e,ix,h]
 ·have e:decide ((k:Int)<(cs.length:Int))=false:=decide_eq_false (by omega)
  refine⟨0,?_⟩
  simp[vK,gG,nD,e,h]
theorem aG{f g:ao->DM Fl}{δ:ao}{M:Mo}{Q:Fl->Mo->Prop}(h:∀K:Fl->DM Fl,(∀δ',K (.nx δ')=g δ')->Rn (f δ>>=K) M Q):Rn (kh f g δ) M Q:=by
 have:=h (fun r=>match r with | .nx δ'=>g δ' | r=>Pure.pure r) (fun _=>rfl)
 exact this
structure WK(R:List (List Nat))(W:Nat):Prop where
 n1:1≤R.length
 n25:R.length≤25
 row:∀r∈R,r.length=R.length
 sum:∀r∈R,r.sum=W
 w1:1≤W
theorem WK.head{R:List (List Nat)}{W:Nat}(h:WK R W):gr R 0∈R:=gr_mem (by have:=h.n1;omega)
noncomputable def Aj:=aK 2 2 (rJ uP)
noncomputable def Ak:=aK 1 2 (jz Aj)
theorem Gx{l:List Nat}{n:Nat}(h:l.length=n)(hl:n≤1000):uP [nT l,nD n]=pure (.bl true):=by
 subst h
 exact Bb hl
theorem ww(n:Nat):(rd (ud [.lst (List.replicate n (.bl true))]):DM D)=pure (.bl true):=by
 have:=Cw (List.replicate n true)
 rw[List.map_replicate] at this
 rw[this];simp
theorem vf{α:Type}(l:List α)(d:D):(l.map fun _=>d)=List.replicate l.length d:=List.map_const' ..
theorem Ie{R:List (List Nat)}{W:Nat}(h:WK R W):Aj [nM R,nD R.length]=pure (.bl true):=by
 have:=h.n25
 simp[Aj,rJ,CG,lC,tQ,Cy,bY,cZ]
 rw[rR nT (fun _=>.bl true) (by omega) (fun r hr=>by simp[Gx (h.row r hr) (by omega)])]
 rw[az,vf,ww]
theorem Ir{R:List (List Nat)}{W:Nat}(h:WK R W):Ak [nM R]=pure (.bl true):=by
 have h1:=h.n1
 have h2:=h.n25
 have e1:(rd (vd (.int 1) (nD R.length)):DM D)=pure (.bl true):=by rw[show D.int 1=nD 1 from rfl,ou,decide_eq_true h1]
 have e2:(rd (vd (nD R.length) (.int 25)):DM D)=pure (.bl true):=by rw[show D.int 25=nD 25 from rfl,ou,decide_eq_true h2]
 have e3:(rd (BK (nD W) (.int 1)):DM D)=pure (.bl true):=by rw[show D.int 1=nD 1 from rfl,Cz,decide_eq_true h.w1]
 have e4:∀r∈R,(rd (cg (nD r.sum) (nD W)):DM D)=pure (.bl true):=fun r hr=>by rw[dM,h.sum r hr];simp
 simp[Ak,jz,CG,lC,e1,e2,Ie h,CJ (R:=R) (by omega),h.sum _ h.head]
 simp[e3,Cy,bY,cZ]
 rw[rR nT (fun _=>.bl true) (by omega) (fun r hr=>by simp[e4 r hr])]
 rw[az,vf,ww]
noncomputable def aB(R:List (List Nat))(W:Nat):D:=.obj "Walk" ["rows", "whole"] [nM R,nD W]
noncomputable def Fin:=aK 2 2 (jy Ak)
theorem yZ{M:Mo}{ns:List Str}{vs:List D}{f:Str}{d:D}(hl:ns.length=vs.length)(hz:ns.length<1000):jK "Walk" f (.ref M.length) d (M++[.ins "Walk" ns vs])=some (.ok (),M++[.ins "Walk" (putN f ns) (bR f d ns vs)]):=by
 unfold jK
 simp[hl]
 omega
theorem Jg{R:List (List Nat)}{W:Nat}(h:WK R W)(M:Mo):Fin (.ref M.length::[nM R]) (M++[.ins "Walk" [] []])=some (.ok .non,M++[.ins "Walk" ["rows", "whole"] [nM R,nD W]]):=by
 have h1:=h.n1
 have go:Rn (Fin (.ref M.length::[nM R])) (M++[.ins "Walk" [] []]) fun d M'=>d=.non∧M'=M++[.ins "Walk" ["rows", "whole"] [nM R,nD W]]:=by
  simp[Fin,jy,Ir h,CJ (R:=R) (by omega)]
  refine Rn.run (yZ rfl (by decide)) ?_
  rw[h.sum _ h.head]
  refine Rn.run (yZ rfl (by decide)) ?_
  exact Rn.pure ⟨rfl,rfl⟩
 obtain⟨d,M',e,rfl,rfl⟩:=go
 exact e
open Classical in
noncomputable def nF(ds:List D):DM D:=if h:∃p:List (List Nat)×Nat,WK p.1 p.2∧ds=[nM p.1] then pure (aB (choose h).1 (choose h).2) else stuck
theorem xX{R:List (List Nat)}{W:Nat}(h:WK R W):nF [nM R]=pure (aB R W):=by
 have q:∃p:List (List Nat)×Nat,WK p.1 p.2∧[nM R]=[nM p.1]:=⟨(R,W),h,rfl⟩
 unfold nF
 rw[dif_pos q]
 obtain⟨a,b⟩:=Classical.choose_spec q
 generalize Classical.choose q=p at a b
 have e:R=p.1:=JN (by simpa using b)
 have w:W=p.2:=by
  have:=h.sum _ h.head
  rw[←this,e]
  exact a.sum _ a.head
 rw[←e,←w]
theorem KQ:∀ds M r',nF ds M=some r'->Ia "Walk" Fin ds M r':=by
 intro ds M r' e
 unfold nF at e
 split at e
 ·rename_i q
  obtain⟨a,b⟩:=Classical.choose_spec q
  generalize Classical.choose q=p at a b e
  subst b
  cases e
  refine .inl ⟨["rows", "whole"],[nM p.1,nD p.2],Jg a M,fun d hd=>?_,rfl⟩
  rcases List.mem_cons.mp hd with rfl | hd
  ·exact .inl (by simp)
  ·exact .inr ⟨p.2,by simpa[nD] using hd⟩
 ·cases e
theorem cI(R:List (List Nat))(W:Nat):(rd (lX "Walk" "rows" (aB R W)):DM D)=pure (nM R):=bJ fun M=>by simp[lX,aB]
theorem Bx(R:List (List Nat))(W:Nat):(rd (lX "Walk" "whole" (aB R W)):DM D)=pure (nD W):=bJ fun M=>by
 have:((Str.ofString "whole")==(Str.ofString "rows"))=false:=by decide
 simp[lX,aB,List.lookup,this]
theorem wQ{m:Str}(h:(["rows", "whole"]:List Str).contains m=false)(R:List (List Nat))(W:Nat):(rd (jm "Walk" m (aB R W)):DM Unit)=pure ():=bJ fun M=>by
 unfold jm aB
 dsimp only
 rw[if_pos ⟨rfl,h⟩]
noncomputable def mO:=aK 1 1 kJ
theorem JC(R:List (List Nat))(W:Nat):mO [aB R W]=pure (nD R.length):=by
 simp[mO,kJ,cI,lC]
theorem ux{R:List (List Nat)}{W:Nat}(h:R.length≤25):zM "Walk" mO [aB R W]=pure (nD R.length):=by
 have e:zM "Walk" mO [aB R W]=(if ("Walk":Str) = "Walk" then mO [aB R W]>>=lU else stuck):=rfl
 rw[e,if_pos rfl,JC,az]
 have q:(0:Int)≤(R.length:Int)∧(R.length:Int)<2^63:=⟨by omega,by omega⟩
 unfold lU nD
 dsimp only
 rw[if_pos q]
theorem WK.le{R:List (List Nat)}{W:Nat}(h:WK R W){r:List Nat}(hr:r∈R){n:Nat}(hn:n∈r):n≤W:=by
 rw[←h.sum r hr]
 exact za hn
theorem WK.at_le{R:List (List Nat)}{W:Nat}(h:WK R W){r:List Nat}(hr:r∈R)(y:Nat):ga r y≤W:=by
 by_cases hy:y<r.length
 ·exact h.le hr (sH hy)
 ·rw[Je (by omega)];exact Nat.zero_le _
theorem yQ{m:DM D}{v:D}(h:∀M,Rn m M fun d M'=>d=v∧M'=M):m=pure v:=by
 funext M
 obtain⟨d,M',e,rfl,rfl⟩:=h M
 exact e
theorem MF:∀l:List Nat,S l.length (ga l)=l.sum:=fun l=>by
 rw[←wg]
 congr 1
 apply List.ext_getElem?
 intro k
 by_cases hk:k<l.length
 ·rw[List.getElem?_map,List.getElem?_range hk,List.getElem?_eq_getElem hk,Option.map_some,jC hk]
 ·rw[List.getElem?_eq_none (by simp;omega),List.getElem?_eq_none (by omega)]
theorem wR(b:Bool):(rd (zK [.bl b]):DM D)=pure (nD (if b then 1 else 0)):=by cases b<;>rfl
theorem uL {l:List Nat}{i v:Nat} (h:i<l.length):(l.set i v).sum + ga l i=l.sum + v:=by
 induction l generalizing i with
 |nil=>simp at h
 | cons a l ih=>
   cases i with
   |zero=>simp[ga];omega
   |succ i=>
     have:=ih (i:=i) (by simpa using h)
     rw[List.set_cons_succ,List.sum_cons,List.sum_cons]
     have e:ga (a::l) (i+1)=ga l i:=rfl
     rw[e];omega
theorem vH{n j:Nat}{d:D}(h:((List.range n).map nD)[j]?=some d):j<n∧d=nD j:=by
 have hj:j<n:=by
  have:=(List.getElem?_eq_some_iff.mp h).1
  simpa using this
 rw[List.getElem?_map,List.getElem?_range hj] at h
 exact⟨hj,(Option.some.inj h).symm⟩
theorem xK{l:List Nat}{i:Nat}(h:i<l.length):(rd (bV (.lst (l.map nD)) (nD i)):DM D)=pure (nD (ga l i)):=Gg (i:=i) (by rw[List.getElem?_map,List.getElem?_eq_getElem h,jC h];rfl)
theorem fF{k:Nat}{tg:D->ao->DM ao}{fb:ao->DM Fl}{l:List D}{δ:ao}:wL k tg fb (.fix l) δ=forL tg fb l δ:=rfl
theorem lA{fg:D->ao->DM ao}{ft:ao->DM Bool}{fb:ao->List D->DM (ao×List D)}{ds:List D}{δ:ao}{l:List D}:dC fg ft fb (.fix ds) δ l=bN fg ft fb ds δ l:=rfl
theorem dU{f g:ao->DM Fl}{δ:ao}{M:Mo}{Q:Fl->Mo->Prop}(h:∀K:Fl->DM Fl,(∀δ',K (.nx δ')=g δ')->(∀d,K (.rt d)=Pure.pure (.rt d))->Rn (f δ>>=K) M Q):Rn (kh f g δ) M Q:=by
 have:=h (fun r=>match r with | .nx δ'=>g δ' | r=>Pure.pure r) (fun _=>rfl) (fun _=>rfl)
 exact this
noncomputable def Aw:=aK 1 1 p6
theorem Cm{s:Nat}(h:s<2^40):∃t:Nat,t<2147483629∧Aw [nD s]=pure (nD t):=by
 refine⟨(((s+7919)%2147483647)*((s+7919)%2147483647)+48271*((s+7919)%2147483647)+12345)%2147483629,Nat.mod_lt _ (by decide),?_⟩
 have a1:(rd (cL (nD s) (.int 7919)):DM D)=pure (nD (s+7919)):=iw s 7919
 have a2:(rd (n8 (nD (s+7919)) (.int 2147483647)):DM D)=pure (nD ((s+7919)%2147483647)):=gM (b:=2147483647) (by decide)
 have lt:=Nat.mod_lt (s+7919) (show 2147483647 > 0 by decide)
 generalize (s+7919)%2147483647=x at a2 lt
 have a3:(rd (xf (nD x) (nD x)):DM D)=pure (nD (x*x)):=xM (by omega)
 have a4:(rd (xf (.int 48271) (nD x)):DM D)=pure (nD (48271*x)):=xM (a:=48271) (by omega)
 have a5:∀a b:Nat,(rd (cL (nD a) (nD b)):DM D)=pure (nD (a+b)):=fun a b=>iw a b
 have a6:(rd (cL (nD (x*x+48271*x)) (.int 12345)):DM D)=pure (nD (x*x+48271*x+12345)):=iw _ 12345
 have a7:(rd (n8 (nD (x*x+48271*x+12345)) (.int 2147483629)):DM D)=pure (nD ((x*x+48271*x+12345)%2147483629)):=gM (b:=2147483629) (by decide)
 simp[Aw,p6,a1,a2,a3,a4,a5,a6,a7]
noncomputable def eN(p:Nat)(M:Mo):Prop:=∃a b c:Nat,c<2^40∧M[p]?=some (.lst [nD a,nD b,nD c])
theorem eN.lt{p:Nat}{M:Mo}(h:eN p M):p<M.length:=by obtain⟨a,b,c,_,e⟩:=h;exact (List.getElem?_eq_some_iff.mp e).1
theorem eN.sb{p q:Nat}{M M':Mo}(h:eN p M)(s:Sb q M M')(hq:p≠q):eN p M':=by obtain⟨a,b,c,hc,e⟩:=h;exact⟨a,b,c,hc,s.at hq e⟩
noncomputable def vV:=aK 1 2 mV
theorem Hl(c:Int)(M:Mo):Rn (vV [.int c]) M fun d M'=>d=.ref M.length∧eN M.length M':=by
 unfold vV mV iI;dsimp only
 refine Rn.call rfl ?_
 refine aG fun K hK=>?_
 have p18:(rd (EY (.int 10) (.int 18)):DM D)=pure (.int 1000000000000000000):=by rw[Ma (by decide)];rfl
 have st:aU 2 [D.int c]=[some (.int c),none]:=rfl
 rw[st]
 simp
 have en:D.int (if c < -c then -c else c)=nD (if c < -c then -c else c).toNat:=by
  unfold nD
  congr 1
  split<;>omega
 rw[en]
 generalize (if c < -c then -c else c).toNat=n
 rw[hK];clear hK K
 have ge:(rd (BK (nD n) (.int 1000000000000000000)):DM D)=pure (.bl (decide (1000000000000000000≤n))):=Cz n 1000000000000000000
 have md:(rd (n8 (nD n) (.int 1000003)):DM D)=pure (nD (n%1000003)):=gM (b:=1000003) (by decide)
 simp[p18,ge,wR,md]
 refine Rn.dD (by simp) ?_
 have lt:=Nat.mod_lt n (show 1000003 > 0 by decide)
 exact Rn.pure ⟨_,rfl,rfl,n,(if 1000000000000000000≤n then 1 else 0),n%1000003,by omega,by simp⟩
noncomputable def vM:=aK 2 3 (pZ Aw)
theorem cO {p:Nat}{M:Mo}{m:Nat} (h:eN p M) (h0:0<m) (h1:m<2 ^ 60):Rn (vM [.ref p,nD m]) M fun d M'=>∃ t:Nat,t<m∧d=nD t∧eN p M'∧Sb p M M':=by
 obtain⟨a,b,c,hc,e⟩:=h
 have hp:=(List.getElem?_eq_some_iff.mp e).1
 unfold vM pZ jU;dsimp only
 refine Rn.call rfl ?_
 have st:aU 3 [D.ref p,nD m]=[some (.ref p),some (nD m),none]:=rfl
 rw[st]
 have i0:bV (.ref p) (.int 0) M=some (nD a):=sO (i:=0) e rfl
 have i1:bV (.ref p) (.int 1) M=some (nD b):=sO (i:=1) e rfl
 have i2:bV (.ref p) (.int 2) M=some (nD c):=sO (i:=2) e rfl
 have eb:(rd (cg (nD b) (.int 1)):DM D)=pure (.bl (decide (b=1))):=dM b 1
 have ga:(rd (u9 (nD a) (.int 0)):DM D)=pure (.bl (decide (0<a))):=tM a 0
 refine dU fun K hK hR=>?_
 have rest:Rn (K (.nx [some (.ref p),some (nD m),none])) M fun r M'=>∃d,r=.rt d∧∃t:Nat,t<m∧d=nD t∧eN p M'∧Sb p M M':=by
  rw[hK];clear hK hR K
  refine aG fun K hK=>?_
  simp
  refine Rn.bindRd _ i2 ?_
  obtain⟨t1,l1,e1⟩:=Cm hc
  have a7:(rd (cL (nD t1) (.int 7)):DM D)=pure (nD (t1+7)):=iw t1 7
  obtain⟨t2,l2,e2⟩:=Cm (s:=t1+7) (by omega)
  simp only[e1,az,a7,e2]
  refine Rn.run (gP (i:=2) e (by simp)) ?_
  rw[hK];clear hK K
  simp
  have at2:(M.set p (.lst [nD a,nD b,nD t2]))[p]?=some (.lst [nD a,nD b,nD t2]):=List.getElem?_set_self hp
  refine Rn.bindRd (nD t2) (sO (i:=2) at2 rfl) ?_
  have dv:(rd (sE (nD t2) (.int 64)):DM D)=pure (nD (t2 / 64)):=xJ (b:=64) (by decide) (by decide)
  simp[dv,gM (a:=t2 / 64) (b:=m) h0]
  exact Rn.pure ⟨_,rfl,_,Nat.mod_lt _ h0,rfl,⟨a,b,t2,by omega,at2⟩,Sb.set⟩
 simp
 refine Rn.bindRd _ i1 ?_
 simp only[eb,az,aX]
 by_cases hb:b=1
 ·simp[hb]
  refine Rn.bindRd _ i0 ?_
  simp only[ga,az,aX]
  by_cases ha:0<a
  ·simp[ha]
   refine Rn.bindRd _ i0 ?_
   simp[gM (a:=a) (b:=m) h0]
   refine Rn.bindRd _ i0 ?_
   simp[xJ (a:=a) (b:=m) h0 (Nat.lt_trans h1 (by decide))]
   refine Rn.run (gP (i:=0) e (by simp)) ?_
   have at2:(M.set p (.lst [nD (a / m),nD b,nD c]))[p]?=some (.lst [nD (a / m),nD b,nD c]):=List.getElem?_set_self hp
   simp
   rw[hR]
   exact Rn.pure ⟨_,rfl,_,Nat.mod_lt _ h0,rfl,⟨_,b,c,hc,at2⟩,Sb.set⟩
  ·simp[ha]
   exact rest
 ·simp[hb]
  exact rest
theorem Ho{a b:List D}(h:a.length+b.length≤1000000):(rd (cL (.lst a) (.lst b)):DM D)=pure (.lst (a++b)):=bJ fun M=>by
 have:dB (a++b)=true:=by unfold dB;exact decide_eq_true (by show (a++b).length≤2^24;rw[List.length_append];omega)
 simp[cL,bh,En,this]
structure Smn(n:Nat)(l:List Nat):Prop where
 ne:l≠[]
 lt:∀i∈l,i<n
 len:l.length≤100
theorem yU{n:Nat}(h:n≤1000):(rd (fun M=>(vC [nD n] M).map D.lst):DM D)=pure (.lst ((List.range n).map nD)):=bJ fun M=>by
 have:vC [nD n] M=some ((List.range n).map nD):=by
  unfold nD
  show (if -(2^62)≤(n:Int)∧(n:Int)≤2^20 then some ((List.range (n:Int).toNat).map nD) else none)=_
  rw[if_pos ⟨by omega,by omega⟩,Int.toNat_natCast]
  rfl
 rw[this];rfl
theorem yR(a b:Nat):(rd (cM (fun _ _=>true) (fun i j=>.int (i+j)) (nD a) (nD b)):DM D)=pure (nD (a+b)):=bJ fun M=>by
 simp[cM,nD]
theorem Hq{a b:List Nat}(h:a.length+b.length≤1000000):(rd (cL (.lst (a.map nD)) (.lst (b.map nD))):DM D)=pure (.lst ((a++b).map nD)):=bJ fun M=>by
 have:dB (a.map nD++b.map nD)=true:=by unfold dB;exact decide_eq_true (by show _≤2^24;rw[List.length_append,List.length_map,List.length_map];omega)
 simp[cL,bh,En,this]
theorem Hr(x:Nat)(b:Bool):(rd (fun M=>(qN (.lst [nD x]) (nD (if b then 1 else 0)) M).map D.lst):DM D)=pure (.lst ((if b then [x] else []).map nD)):=bJ fun M=>by
 cases b<;>rfl
noncomputable def vY:=aK 2 10 (p7 vM)
structure RwsS(M0:Mo)(p q n W:Nat)(i:Nat)(M:Mo):Prop where
 pen:eN p M
 sb:Sb p M0 M
 ex:∃R:List (List Nat),R.length=i∧M[q]?=some (.lst (R.map nT))∧∀r∈R,r.length=n∧r.sum=W
noncomputable def zg(M0:Mo)(p tp q n W kd:Nat)(i:Nat)(δ:ao)(M:Mo):Prop:=(∃z6 z7 z8 z9,δ=[some (.ref p),some (nD tp),some (nD n),some (nD W),some (nD kd),some (.ref q),z6,z7,z8,z9])∧RwsS M0 p q n W i M
structure BalS(M0:Mo)(p q t n:Nat)(L:List (List Nat))(i:Nat)(M:Mo):Prop where
 pen:eN p M
 sb:Sb p M0 M
 atq:M[q]?=some (.lst (L.map nT))
 ex:∃r:List Nat,M[t]?=some (.lst (r.map nD))∧r.length=n∧r.sum=i
noncomputable def Mz(M0:Mo)(p q t n:Nat)(L:List (List Nat))(pre:ao)(i:Nat)(δ:ao)(M:Mo):Prop:=(∃z9,δ=pre++[z9])∧BalS M0 p q t n L i M
theorem Hz {p tp:Nat}{M:Mo} (hp:eN p M) (h1:1≤tp) (h2:tp≤6):Rn (vY [.ref p,nD tp]) M fun d M'=>∃ (R:List (List Nat)) (W:Nat),d=nM R∧WK R W∧R.length≤tp∧W≤12∧eN p M'∧Sb p M M':=by
 have hpl:=hp.lt
 unfold vY p7 jV;dsimp only
 refine Rn.call rfl ?_
 have st:aU 10 [D.ref p,nD tp]=[some (.ref p),some (nD tp),none,none,none,none,none,none,none,none]:=rfl
 rw[st]
 refine aG fun K hK=>?_
 simp
 refine Rn.bind (cO hp (by omega:0<tp) (by omega)) fun d1 M1 ⟨t1,g1,e1,hp1,s1⟩=>?_
 subst e1
 have ml:m6 [.int 1,.int 2,.int 3,.int 4,.int 6,.int 12]=pure (.lst ([1,2,3,4,6,12].map nD)):=je (by simp)
 simp only[Cu,az,ml]
 have d6:=cO (m:=6) hp1 (by decide) (by decide)
 refine Rn.bind d6 fun d2 M2 ⟨t2,g2,e2,hp2,s2⟩=>?_
 subst e2
 have ht2:t2<[1,2,3,4,6,12].length:=by simpa using g2
 rw[xK ht2]
 have hW:1≤ga [1,2,3,4,6,12] t2∧ga [1,2,3,4,6,12] t2≤12:=by
  have:=sH ht2
  generalize ga [1,2,3,4,6,12] t2=x at this
  simp at this
  omega
 revert hW
 generalize ga [1,2,3,4,6,12] t2=W
 intro hW
 have d7:=cO (m:=7) hp2 (by decide) (by decide)
 simp only[az]
 refine Rn.bind d7 fun d3 M3 ⟨kd,g3,e3,hp3,s3⟩=>?_
 subst e3
 rw[hK];clear hK K d6 d7 ml ht2
 have sb3:Sb p M M3:=s1.trans (s2.trans s3)
 have hn1:1≤t1+1:=by omega
 have hn2:t1+1≤tp:=by omega
 revert hn1 hn2
 generalize t1+1=n
 intro n1 n2
 -- the list of rows
 refine aG fun K hK=>?_
 simp
 refine Rn.dD (by simp) ?_
 have pq:p≠M3.length:=by have:=hp3.lt;omega
 have ql:M.length≤M3.length:=sb3.le
 have st0:RwsS M p M3.length n W 0 (M3++[.lst []]):=⟨hp3.sb (q:=M3.length) Sb.push pq,Sb.new (p:=p) (.inr sb3.le) ql Sb.push sb3,[],rfl,by simp,by simp⟩
 rw[hK];clear hK K hp1 hp2 hp3 s1 s2 s3
 revert st0 pq ql
 generalize M3.length=q
 generalize M3++[DO.lst []]=M4
 intro pq ql st0
 refine aG fun K hK=>?_
 simp[eU (n:=n) (by omega),fF]
 refine Rn.bind (gJ (zg M p tp q n W kd) _ 0 _ _ ⟨⟨_,_,_,_,rfl⟩,st0⟩ (fun x d δ M5 hx hI=>?_)) (fun r M5 hI=>?_)
 rotate_left
 ·obtain⟨δ',rfl,⟨z6,z7,z8,z9,rfl⟩,hp5,sb5,R,lR,at5,hR⟩:=hI
  rw[hK];clear hK K
  rw[List.length_map,List.length_range,Nat.zero_add] at lR
  simp
  refine Rn.bindRd (nM R) (by show (bh (.ref q) M5).map _=_;simp only[bh,at5];rfl) ?_
  exact Rn.pure ⟨_,rfl,R,rfl,W,⟨by omega,by omega,fun r hr=>by rw[(hR r hr).1,lR],fun r hr=>(hR r hr).2,hW.1⟩,by omega,hW.2,hp5,sb5⟩
 clear hK K
 obtain⟨⟨z6,z7,z8,z9,rfl⟩,hp5,sb5,R,lR,at5,hR⟩:=hI
 obtain⟨hx',rfl⟩:=vH hx
 rw[Nat.zero_add] at lR ⊢
 rw[zW,az]
 have hQ:∀δ' M',zg M p tp q n W kd (x+1) δ' M'->(fun (r:Fl) (M':Mo)=>∃δ',r=.nx δ'∧zg M p tp q n W kd (x+1) δ' M') (.nx δ') M':=fun δ' M' h=>⟨δ',rfl,h⟩
 revert hQ
 generalize (fun (r:Fl) (M':Mo)=>∃δ',r=.nx δ'∧zg M p tp q n W kd (x+1) δ' M')=Q
 intro hQ
 -- all places
 refine aG fun K hK=>?_
 simp[yU (n:=n) (by omega)]
 rw[hK];clear hK K
 have som0:Smn n (List.range n):=⟨by simp;omega,fun i hi=>List.mem_range.mp hi,by simp;omega⟩
 let G:(Fl->DM Fl)->Prop:=fun K=>∀(l:List Nat) (M6:Mo),Smn n l->eN p M6->Sb p M5 M6->Rn (K (.nx [some (.ref p),some (nD tp),some (nD n),some (nD W),some (nD kd),some (.ref q),some (nD x),some (.lst (l.map nD)),z8,z9])) M6 Q
 have ev:∀c:Nat,∀b,decide (kd=c)=b->(rd (cg (nD kd) (nD c)):DM D)=pure (.bl b):=fun c b h=>h ▸ dM kd c
 -- 1
 refine aG fun K hK=>?_
 suffices H:G K by
  by_cases h:kd=1
  ·have e:(rd (cg (nD kd) (.int 1)):DM D)=_:=ev 1 _ (decide_eq_true h)
   simp[e]
   refine Rn.bind (cO hp5 (by omega:0<n) (by omega)) fun d1 M7 ⟨u1,g1,e1,hp7,s7⟩=>?_
   refine Rn.bind (cO hp7 (by omega:0<n) (by omega)) fun d2 M8 ⟨u2,g2,e2,hp8,s8⟩=>?_
   subst e1 e2
   have ml:m6 [nD u1,nD u2]=pure (.lst ([u1,u2].map nD)):=je (by simp)
   simp only[ml,az]
   exact H [u1,u2] M8 ⟨by simp,fun i hi=>by simp at hi;omega,by simp⟩ hp8 (s7.trans s8)
  ·have e:(rd (cg (nD kd) (.int 1)):DM D)=_:=ev 1 _ (decide_eq_false h)
   simp[e]
   exact H _ _ som0 hp5 Sb.refl
 intro l1 M6_1 som1 hp6_1 sb6_1
 rw[hK];clear hK K
 -- 2
 refine aG fun K hK=>?_
 suffices H:G K by
  by_cases h:kd=2
  ·have e:(rd (cg (nD kd) (.int 2)):DM D)=_:=ev 2 _ (decide_eq_true h)
   have ml:m6 [nD ((x+1)%n)]=pure (.lst ([(x+1)%n].map nD)):=je (by simp)
   have hm:=Nat.mod_lt (x+1) (show n > 0 by omega)
   simp[e,pL,gM (a:=x+1) (b:=n) (by omega),ml]
   exact H [(x+1)%n] _ ⟨by simp,fun i hi=>by simp at hi;omega,by simp⟩ hp6_1 sb6_1
  ·have e:(rd (cg (nD kd) (.int 2)):DM D)=_:=ev 2 _ (decide_eq_false h)
   simp[e]
   exact H _ _ som1 hp6_1 sb6_1
 intro l2 M6_2 som2 hp6_2 sb6_2
 rw[hK];clear hK K
 -- 3
 refine aG fun K hK=>?_
 suffices H:G K by
  by_cases h:kd=3
  ·have e:(rd (cg (nD kd) (.int 3)):DM D)=_:=ev 3 _ (decide_eq_true h)
   have md:∀y:Nat,(rd (n8 (nD y) (.int 2)):DM D)=pure (nD (y%2)):=fun y=>gM (b:=2) (by decide)
   have e1:(rd (cg (nD n) (.int 1)):DM D)=pure (.bl (decide (n=1))):=dM n 1
   have ml:m6 [nD x]=pure (.lst [nD x]):=je (by simp)
   have fl:((List.range n).filter fun y=>!decide (y%2=x%2)).length≤n:=by
    have:=List.length_filter_le (fun y=>!decide (y%2=x%2)) (List.range n)
    rwa [List.length_range] at this
   have il:(if decide (n=1)=true then [x] else []).length≤1:=by split<;>simp
   have ad:=Hq (a:=(List.range n).filter fun y=>!decide (y%2=x%2)) (b:=if decide (n=1)=true then [x] else []) (by omega)
   have mu:=Hr x (decide (n=1))
   have ge:=H (((List.range n).filter fun y=>!decide (y%2=x%2))++if decide (n=1)=true then [x] else []) M6_2 ⟨fun z=>?_,fun i hi=>?_,?_⟩ hp6_2 sb6_2
   ·simp only[cA,aO,aF,aq,e,aX,if_true,eU (n:=n) (by omega),yS,bY,cZ,List.length_cons,List.length_nil,List.map_cons,List.map_nil,List.replicate_succ,List.replicate_zero,List.cons_append,List.nil_append,Option.getD_some]
    rw[bB nD (fun y=>!decide (y%2=x%2)) nD (by simp;omega) (fun y hy=>by simp[md,tQ]) (fun y hy _=>by simp)]
    simp only[cA,az,xN,ml,e1,wR,mu,ad]
    exact ge
   ·rw [List.append_eq_nil_iff] at z
    by_cases h1:n=1
    ·rw[decide_eq_true h1,if_pos rfl] at z
     cases z.2
    ·have m:(if x % 2=0 then 1 else 0)∈(List.range n).filter fun y=>!decide (y % 2=x % 2):=by
      rw[List.mem_filter,List.mem_range]
      constructor
      ·split<;>omega
      ·by_cases h2:x%2=0
       ·simp[h2]
       ·have:x%2=1:=by omega
        simp[this]
     rw[z.1] at m
     cases m
   ·rcases List.mem_append.mp hi with h2 | h2
    ·exact List.mem_range.mp (List.mem_filter.mp h2).1
    ·split at h2
     ·simp at h2;omega
     ·cases h2
   ·rw[List.length_append];omega
  ·have e:(rd (cg (nD kd) (.int 3)):DM D)=_:=ev 3 _ (decide_eq_false h)
   simp[e]
   exact H _ _ som2 hp6_2 sb6_2
 intro l3 M6_3 som3 hp6_3 sb6_3
 rw[hK];clear hK K
 -- 4
 refine aG fun K hK=>?_
 suffices H:G K by
  by_cases h:kd=4
  ·have e:(rd (cg (nD kd) (.int 4)):DM D)=_:=ev 4 _ (decide_eq_true h)
   have dv:∀y:Nat,(rd (sE (nD y) (.int 2)):DM D)=pure (nD (y / 2)):=fun y=>xJ (b:=2) (by decide) (by decide)
   have fl:((List.range n).filter fun y=>decide (y / 2=x / 2)).length≤n:=by
    have:=List.length_filter_le (fun y=>decide (y / 2=x / 2)) (List.range n)
    rwa [List.length_range] at this
   simp only[cA,aO,aF,aq,e,aX,if_true,eU (n:=n) (by omega),yS,bY,cZ,List.length_cons,List.length_nil,List.map_cons,List.map_nil,List.replicate_succ,List.replicate_zero,List.cons_append,List.nil_append,Option.getD_some]
   rw[bB nD (fun y=>decide (y / 2=x / 2)) nD (by simp;omega) (fun y hy=>by simp[dv,dM]) (fun y hy _=>by simp)]
   simp only[cA,az,xN]
   refine H _ _ ⟨fun z=>?_,fun i hi=>List.mem_range.mp (List.mem_filter.mp hi).1,by omega⟩ hp6_3 sb6_3
   have m:x∈(List.range n).filter fun y=>decide (y / 2=x / 2):=by rw[List.mem_filter,List.mem_range];exact⟨hx',by simp⟩
   rw[z] at m
   cases m
  ·have e:(rd (cg (nD kd) (.int 4)):DM D)=_:=ev 4 _ (decide_eq_false h)
   simp[e]
   exact H _ _ som3 hp6_3 sb6_3
 intro l4 M6_4 som4 hp6_4 sb6_4
 rw[hK];clear hK K
 -- 5
 refine aG fun K hK=>?_
 suffices H:G K by
  by_cases h:kd=5
  ·have e:(rd (cg (nD kd) (.int 5)):DM D)=_:=ev 5 _ (decide_eq_true h)
   simp[e,pL,yU (n:=x+1) (by omega)]
   exact H (List.range (x+1)) _ ⟨by simp,fun i hi=>by have:=List.mem_range.mp hi;omega,by simp;omega⟩ hp6_4 sb6_4
  ·have e:(rd (cg (nD kd) (.int 5)):DM D)=_:=ev 5 _ (decide_eq_false h)
   simp[e]
   exact H _ _ som4 hp6_4 sb6_4
 intro l5 M6_5 som5 hp6_5 sb6_5
 rw[hK];clear hK K
 -- the row
 have q6:q<M6_5.length:=(List.getElem?_eq_some_iff.mp (sb6_5.at (fun z=>pq z.symm) at5)).1
 have at6:=sb6_5.at (fun z=>pq z.symm) at5
 have sb6:Sb p M M6_5:=sb5.trans sb6_5
 have m0:m6 [.int 0]=pure (.lst [.int 0]):=je (by simp)
 refine aG fun K hK=>?_
 simp[m0]
 refine Es (by omega) ?_
 have pt:p≠M6_5.length:=by have:=hp6_5.lt;omega
 have qt:q≠M6_5.length:=by omega
 have tl:M.length≤M6_5.length:=sb6.le
 have bs0:BalS M p q M6_5.length n R 0 (M6_5++[.lst ((List.replicate n 0).map nD)]):=⟨hp6_5.sb (q:=M6_5.length) Sb.push pt,Sb.new (p:=p) (.inr sb6.le) tl Sb.push sb6,by rw[List.getElem?_append_left q6];exact at6,List.replicate n 0,by simp,by simp,by simp⟩
 rw[hK];clear hK K
 revert bs0 pt qt tl
 generalize M6_5.length=t
 generalize M6_5++[DO.lst ((List.replicate n 0).map nD)]=M7
 intro pt qt tl bs0
 -- ball by ball
 refine aG fun K hK=>?_
 simp[eU (n:=W) (by omega),fF]
 refine Rn.bind (gJ (Mz M p q t n R [some (.ref p),some (nD tp),some (nD n),some (nD W),some (nD kd),some (.ref q),some (nD x),some (.lst (l5.map nD)),some (.ref t)]) _ 0 _ _ ⟨⟨z9,rfl⟩,bs0⟩ (fun j d δ M8 hj hI=>?_)) (fun r M8 hI=>?_)
 ·obtain⟨⟨z9,rfl⟩,hp8,sb8,atq8,r,at8,lr,sr⟩:=hI
  obtain⟨hj',rfl⟩:=vH hj
  rw[Nat.zero_add] at sr ⊢
  rw[zW,az]
  have ln:(rd (cW [.lst (l5.map nD)]):DM D)=pure (nD l5.length):=by simp[nD]
  have l0:0<l5.length:=List.length_pos_iff.mpr som5.ne
  simp[ln]
  refine Rn.bind (cO hp8 l0 (by have:=som5.len;omega)) fun d9 M9 ⟨u,g9,e9,hp9,s9⟩=>?_
  subst e9
  simp only[xK g9,az]
  have ul:ga l5 u<r.length:=by rw[lr];exact som5.lt _ (sH g9)
  have at9:=s9.at (fun z=>pt z.symm) at8
  have atq9:=s9.at (fun z=>pq z.symm) atq8
  have t9:=(List.getElem?_eq_some_iff.mp at9).1
  generalize ga l5 u=v at ul
  refine Rn.bindRd (nD (ga r v)) (by
   show (if 0≤(v:Int) then (bh (.ref t) M9).bind fun l=>atI l (v:Int) else none)=_
   rw[if_pos (by omega)]
   simp only[bh,at9,Option.bind_some]
   exact kI (by rw[List.getElem?_map,List.getElem?_eq_getElem ul,jC ul];rfl)) ?_
  have ia:(rd (cM (fun _ _=>true) (fun i j=>.int (i+j)) (nD (ga r v)) (.int 1)):DM D)=pure (nD (ga r v+1)):=yR (ga r v) 1
  simp[ia]
  refine Rn.run (gP at9 (by rw[List.length_map];exact ul)) ?_
  refine Rn.pure ⟨_,rfl,⟨_,rfl⟩,hp9.sb (q:=t) Sb.set pt,Sb.new (p:=p) (.inr (sb8.trans s9).le) tl Sb.set (sb8.trans s9),by rw[List.getElem?_set_ne (fun z=>qt z.symm)];exact atq9,r.set v (ga r v+1),?_,by rw[List.length_set];exact lr,?_⟩
  ·rw[List.getElem?_set_self t9,List.map_set]
  ·have:=uL (l:=r) (i:=v) (v:=ga r v+1) ul
   omega
 obtain⟨δ',rfl,⟨z9,rfl⟩,hp8,sb8,atq8,r,at8,lr,sr⟩:=hI
 rw[List.length_map,List.length_range,Nat.zero_add] at sr
 rw[hK];clear hK K
 simp
 refine Rn.bindRd _ (by simp only[bh,atq8];rfl) ?_
 refine Rn.bindRd (nT r) (by show (bh (.ref t) M8).map _=_;simp only[bh,at8];rfl) ?_
 have q8:=(List.getElem?_eq_some_iff.mp atq8).1
 refine Rn.run (yC atq8 (by rw[List.length_map];omega)) ?_
 refine Rn.pure (hQ _ _ ⟨⟨_,_,_,_,rfl⟩,hp8.sb (q:=q) Sb.set pq,Sb.new (p:=p) (.inr sb8.le) ql Sb.set sb8,R++[r],by simp[lR],by rw[List.getElem?_set_self q8];simp,fun r' hr'=>?_⟩)
 rcases List.mem_append.mp hr' with z | z
 ·exact hR r' z
 ·rw[List.mem_singleton.mp z];exact⟨lr,sr⟩
noncomputable def Am:=aK 1 1 (wy uP)
noncomputable def Ax:=aK 1 1 (jA Am)
noncomputable def H8(l:List Nat):Prop:=1≤l.length∧l.length≤25∧0<l.sum
theorem Jf{l:List Nat}(h1:1≤l.length)(h2:l.length≤25):Am [nT l]=pure (.bl (decide (0<l.sum))):=by
 have a:(rd (gh [nT l,.ty "tuple"]):DM D)=pure (.bl true):=tO (t := "tuple") (fun _=>rfl) (by decide)
 have ln:(rd (cW [nT l]):DM D)=pure (.int (l.length:Int)):=by simp[nT]
 have e1:decide ((1:Int)≤(l.length:Int))=true:=decide_eq_true (by omega)
 have e2:decide ((l.length:Int)≤25)=true:=decide_eq_true (by omega)
 simp[Am,wy,a,ln,e1,e2,Bb (l:=l) (by omega),yz]
theorem Kr{l:List Nat}(h:H8 l):Ax [nT l]=pure .non:=by
 simp[Ax,jA,Jf h.1 h.2.1,h.2.2]
noncomputable def Frs:=aK 1 1 (iY nG)
theorem Ks{k:Nat}(h:k≤100):Frs [nD k]=pure .non:=by
 have e1:(rd (vd (.int 0) (nD k)):DM D)=pure (.bl true):=by rw[show D.int 0=nD 0 from rfl,ou,decide_eq_true (Nat.zero_le _)]
 have e2:(rd (vd (nD k) (.int 100)):DM D)=pure (.bl true):=by rw[show D.int 100=nD 100 from rfl,ou,decide_eq_true h]
 simp[Frs,iY,sJ,e1,e2]
noncomputable def unit(n x:Nat):List Nat:=(List.range n).map fun i=>if i=x then 1 else 0
noncomputable def Av:=aK 2 2 wz
theorem Jy{n x:Nat}(h:n≤1000):Av [nD x,nD n]=pure (nT (unit n x)):=by
 simp[Av,wz,eU (n:=n) (by omega),bY,cZ]
 rw[rR nD (fun i=>nD (if i=x then 1 else 0)) (by simp;omega) (fun i hi=>by
  simp[dM]
  by_cases e:i=x<;>simp[e,nD])]
 simp[unit,nT,Function.comp_def]
noncomputable def dot(l:List Nat)(R:List (List Nat))(y:Nat):Nat:=(List.zipWith (fun w r=>w*ga r y) l R).sum
noncomputable def stp(R:List (List Nat))(l:List Nat):List Nat:=(List.range R.length).map (dot l R)
noncomputable def sI{α:Type}(f:α->α):Nat->α->α
 |0,a=>a
 |n+1,a=>sI f n (f a)
theorem qK {α:Type} (f:α->α):∀ (n:Nat) (a:α),sI f (n + 1) a=f (sI f n a)
 |0,a=>rfl
 |n+1,a=>by
   show sI f (n+1) (f a)=_
   rw[qK f n (f a)];rfl
noncomputable def Ay:=aK 2 2 uU
theorem JM(f:Nat->List Nat->Nat)(l:List Nat)(R:List (List Nat)):List.zipWith (fun w r=>nD (f w r)) l R=(List.zipWith f l R).map nD:=by rw[List.map_zipWith]
theorem Kv {R:List (List Nat)}{W:Nat}{l:List Nat} (h:WK R W) (hW:W<2 ^ 60) (hl:l.length=R.length):Ay [nM R,nT l]=pure (nT (stp R l)):=by
 have h2:=h.n25
 simp[Ay,uU,CK,eU (n:=l.length) (by omega),bY,cZ]
 rw[rR nD (fun y=>nD (dot l R y)) (by simp;omega) (fun y hy=>?_)]
 ·simp[stp,hl,nT,Function.comp_def]
 ·have hy':y<R.length:=by rw[←hl];exact List.mem_range.mp hy
  simp[Hs]
  rw[Io nD nT (fun w r=>nD (w*ga r y)) (by omega) (fun w hw r hr=>by
   have:=h.at_le hr y
   simp[pM (l:=r) (i:=y) (by rw[h.row r hr];exact hy'),xM (a:=w) (b:=ga r y) (by omega)])]
  rw[JM,az,Kh]
  rfl
theorem HH(R:List (List Nat))(l:List Nat):(stp R l).length=R.length:=by simp[stp]
theorem G3{R:List (List Nat)}{l:List Nat}(hl:l.length=R.length):∀k,(sI (stp R) k l).length=R.length
 |0=>hl
 |k+1=>by rw[qK,HH]
theorem rB(n x:Nat):(unit n x).length=n:=by simp[unit]
theorem Fp{n x:Nat}(h:x<n):(unit n x).sum=1:=by
 unfold unit
 rw[wg]
 have e:S n (fun i=>if i=x then 1 else 0)=S n (up (fun _=>0) x 1):=uc fun i _=>rfl
 have:S n (up (fun _=>0) x 1)+0=S n (fun _=>0)+1:=H9 (f:=fun _=>0) h
 rw[wj (f:=fun _=>0) fun _ _=>rfl] at this
 omega
theorem Fo{R:List (List Nat)}{W x:Nat}(h:WK R W)(hx:x<R.length):H8 (unit R.length x):=⟨by rw[rB];exact h.n1,by rw[rB];exact h.n25,by rw[Fp hx];decide⟩
noncomputable def Ai:=aK 3 4 (nH Ax Frs Ay)
noncomputable def NQ(M0:Mo)(w:D)(R:List (List Nat))(l:List Nat)(k:Nat)(i:Nat)(δ:ao)(M:Mo):Prop:=(∃z,δ=[some w,some (nT (sI (stp R) i l)),some (nD k),z])∧M=M0
theorem Ib{R:List (List Nat)}{W:Nat}{l:List Nat}{k:Nat}(h:WK R W)(hW:W<2^60)(hl:l.length=R.length)(hL:H8 l)(hk:k≤100):Ai [aB R W,nT l,nD k]=pure (nT (sI (stp R) k l)):=yQ fun M=>by
 unfold Ai nH jr;dsimp only
 refine Rn.call rfl ?_
 simp[Kr hL,CK,cI,lC,tQ,hl,Ks hk,eU (n:=k) (by omega),wL]
 refine Rn.bind (gJ (NQ M (aB R W) R l k) _ 0 _ _ ⟨⟨none,rfl⟩,rfl⟩ (fun j d δ M1 hj hI=>?_)) (fun r M1 hI=>?_)
 ·obtain⟨⟨z,rfl⟩,rfl⟩:=hI
  rw[Nat.zero_add]
  simp[cI,Kv h hW (G3 hl j)]
  exact Rn.pure ⟨_,rfl,⟨_,by rw[qK]⟩,rfl⟩
 ·obtain⟨δ',rfl,⟨z,rfl⟩,rfl⟩:=hI
  simp
  exact Rn.pure ⟨_,rfl,rfl,rfl⟩
noncomputable def jQ(R:List (List Nat))(k:Nat):List (List Nat):=(List.range R.length).map fun x=>sI (stp R) k (unit R.length x)
noncomputable def uQ:=aK 2 3 (nJ Av Ai)
theorem J7{R:List (List Nat)}{W:Nat}{k:Nat}(h:WK R W)(hW:W<2^60)(hk:k≤100):uQ [aB R W,nD k]=pure (nM (jQ R k)):=by
 have h2:=h.n25
 simp[uQ,nJ,cI,lC,eU (n:=R.length) (by omega),bY,cZ]
 rw[rR nD (fun x=>nT (sI (stp R) k (unit R.length x))) (by simp;omega) (fun x hx=>by
  have hx':=List.mem_range.mp hx
  simp[wQ (m := "after") (by decide),Jy (n:=R.length) (x:=x) (by omega),Ib h hW (rB _ _) (Fo h hx') hk])]
 simp[jQ,nM,Function.comp_def]
abbrev Ro:=List (List Nat)
structure KS where
 R:Ro
 ms:List Ro
 ds:List (Ro×List Ro)
noncomputable def bQ(W:Nat)(ms:List Ro):D:=.tup (ms.map fun R=>aB R W)
noncomputable def rT(W:Nat)(q:Ro×List Ro):D:=.tup [aB q.1 W,bQ W q.2]
def cJ:List Str:=["kept", "marks", "deeds", "powers", "made"]
structure KOk(n W:Nat)(S:KS):Prop where
 R:WK S.R W∧S.R.length=n
 ms:∀R∈S.ms,WK R W∧R.length=n
 ds:∀q∈S.ds,(WK q.1 W∧q.1.length=n)∧∀R∈q.2,WK R W∧R.length=n
structure Kpr(k d p W:Nat)(S:KS)(M:Mo):Prop where
 obj:∃c:Nat,M[k]?=some (.ins "Keeper" cJ [aB S.R W,bQ W S.ms,.ref d,.ref p,nD c])
 dd:M[d]?=some (.lst (S.ds.map (rT W)))
 pw:∃j,j≤50∧M[p]?=some (.lst ((List.range (j+1)).map fun i=>nM (jQ S.R i)))
 kd:k<d
 dp:d<p
structure Op(k d p:Nat)(M:Mo)(p':Nat)(M':Mo):Prop where
 le:M.length≤M'.length
 keep:∀q,q<M.length->q≠k->q≠d->q≠p->M'[q]?=M[q]?
 new:p'=p∨M.length≤p'
theorem Op.trans {k d p p1 p2:Nat}{M M1 M2:Mo} (a:Op k d p M p1 M1) (b:Op k d p1 M1 p2 M2):Op k d p M p2 M2 where
 le:=Nat.le_trans a.le b.le
 keep:=fun q hq h1 h2 h3=>by
  have n3:q≠p1:=by
   rcases a.new with z | z
   ·omega
   ·omega
  rw[b.keep q (Nat.lt_of_lt_of_le hq a.le) h1 h2 n3]
  exact a.keep q hq h1 h2 h3
 new:=by
  have:=a.le
  rcases b.new with z | z
  ·rcases a.new with y | y
   ·exact .inl (z.trans y)
   ·exact .inr (by omega)
  ·exact .inr (by omega)
theorem Kpr.on{k d p q W:Nat}{S:KS}{M M':Mo}(h:Kpr k d p W S M)(s:Sb q M M')(h1:k≠q)(h2:d≠q)(h3:p≠q):Kpr k d p W S M':=by
 obtain⟨c,e⟩:=h.obj
 obtain⟨j,hj,e2⟩:=h.pw
 exact⟨⟨c,s.at h1 e⟩,s.at h2 h.dd,⟨j,hj,s.at h3 e2⟩,h.kd,h.dp⟩
theorem uK{M:Mo}{k:Nat}{vs:List D}{f:Str}{d:D}(e:M[k]?=some (.ins "Keeper" cJ vs))(hl:vs.length=5):jK "Keeper" f (.ref k) d M=some (.ok (),M.set k (.ins "Keeper" (putN f cJ) (bR f d cJ vs))):=by
 unfold jK
 simp only[e]
 rw[if_pos ⟨True.intro,by rw[hl];rfl,by decide⟩]
theorem bD{M:Mo}{k:Nat}{vs:List D}{f:Str}{x:D}(e:M[k]?=some (.ins "Keeper" cJ vs))(h:(cJ.zip vs).lookup f=some x):lX "Keeper" f (.ref k) M=some x:=by
 simp only[lX,e]
 rw[if_pos True.intro];exact h
theorem cj{M:Mo}{k:Nat}{vs:List D}{m:Str}(e:M[k]?=some (.ins "Keeper" cJ vs))(h:cJ.contains m=false):jm "Keeper" m (.ref k) M=some ():=by
 simp only[jm,e]
 rw[if_pos ⟨True.intro,h⟩]
theorem Rn.callN{p n:Nat}{fb:ao->DM Fl}{ds:List D}{M:Mo}{Q:D->Mo->Prop}(hp:ds.length=p)(h:Rn (fb (aU n ds)) M fun r M'=>(∃δ,r=.nx δ)∧Q .non M'):Rn (aK p n fb ds) M Q:=by
 unfold aK
 rw[if_pos hp]
 refine Rn.bind h fun r M' hq=>?_
 obtain⟨⟨δ,rfl⟩,q⟩:=hq
 exact Rn.pure q
theorem Mx{R:Ro}{W:Nat}(wk:WK R W)(hW:W<2^60):uQ [aB R W,.int 0]=pure (nM (jQ R 0)):=J7 (k:=0) wk hW (by omega)
noncomputable def vP:=aK 3 3 (jx uQ)
theorem Bm{k d p W:Nat}{S:KS}{M:Mo}(h:Kpr k d p W S M){R:Ro}{ms:List Ro}(wk:WK R W)(hW:W<2^60) :
  Rn (vP [.ref k,aB R W,bQ W ms]) M fun r M'=>r=.non∧∃p',Kpr k d p' W ⟨R,ms,S.ds⟩ M'∧Op k d p M p' M':=by
 obtain⟨c,ho⟩:=h.obj
 obtain⟨j,hj,hp⟩:=h.pw
 have kl:=(List.getElem?_eq_some_iff.mp ho).1
 have dl:=(List.getElem?_eq_some_iff.mp h.dd).1
 have pl:=(List.getElem?_eq_some_iff.mp hp).1
 have kd:=h.kd
 have dp:=h.dp
 unfold vP jx gj;dsimp only
 refine Rn.callN rfl ?_
 have st:aU 3 [D.ref k,aB R W,bQ W ms]=[some (.ref k),some (aB R W),some (bQ W ms)]:=rfl
 rw[st]
 refine aG fun K hK=>?_
 simp only[aO,aF,aq]
 refine Rn.run (uK ho rfl) ?_
 rw[hK];clear hK K
 have ho1:(M.set k (.ins "Keeper" (putN "kept" cJ) (bR "kept" (aB R W) cJ [aB S.R W,bQ W S.ms,.ref d,.ref p,nD c])))[k]?=some (.ins "Keeper" cJ [aB R W,bQ W S.ms,.ref d,.ref p,nD c]):=List.getElem?_set_self kl
 have k1:∀q,q≠k->(M.set k (.ins "Keeper" (putN "kept" cJ) (bR "kept" (aB R W) cJ [aB S.R W,bQ W S.ms,.ref d,.ref p,nD c])))[q]?=M[q]?:=fun q hq=>List.getElem?_set_ne (fun z=>hq z.symm)
 have l1:(M.set k (.ins "Keeper" (putN "kept" cJ) (bR "kept" (aB R W) cJ [aB S.R W,bQ W S.ms,.ref d,.ref p,nD c]))).length=M.length:=by simp
 revert ho1 k1 l1
 generalize M.set k (.ins "Keeper" (putN "kept" cJ) (bR "kept" (aB R W) cJ [aB S.R W,bQ W S.ms,.ref d,.ref p,nD c]))=M1
 intro ho1 k1 l1
 refine aG fun K hK=>?_
 simp only[aO,aF,aq]
 refine Rn.run (uK ho1 rfl) ?_
 rw[hK];clear hK K
 have ho2:(M1.set k (.ins "Keeper" (putN "marks" cJ) (bR "marks" (bQ W ms) cJ [aB R W,bQ W S.ms,.ref d,.ref p,nD c])))[k]?=some (.ins "Keeper" cJ [aB R W,bQ W ms,.ref d,.ref p,nD c]):=List.getElem?_set_self (by rw[l1];exact kl)
 have k2:∀q,q≠k->(M1.set k (.ins "Keeper" (putN "marks" cJ) (bR "marks" (bQ W ms) cJ [aB R W,bQ W S.ms,.ref d,.ref p,nD c])))[q]?=M[q]?:=fun q hq=>(List.getElem?_set_ne (fun z=>hq z.symm)).trans (k1 q hq)
 have l2:(M1.set k (.ins "Keeper" (putN "marks" cJ) (bR "marks" (bQ W ms) cJ [aB R W,bQ W S.ms,.ref d,.ref p,nD c]))).length=M.length:=by simp[l1]
 revert ho2 k2 l2
 generalize M1.set k (.ins "Keeper" (putN "marks" cJ) (bR "marks" (bQ W ms) cJ [aB R W,bQ W S.ms,.ref d,.ref p,nD c]))=M2
 intro ho2 k2 l2
 clear ho1 k1 l1
 have ip:(rd (jm "Walk" "power" (aB R W)):DM Unit)=pure ():=wQ (by decide) R W
 simp only[aO,aF,aq,ip,Mx wk hW]
 refine Rn.dD (by simp) ?_
 have ho3:(M2++[DO.lst [nM (jQ R 0)]])[k]?=some (.ins "Keeper" cJ [aB R W,bQ W ms,.ref d,.ref p,nD c]):=by rw[List.getElem?_append_left (by omega)];exact ho2
 refine Rn.run (uK ho3 rfl) ?_
 refine Rn.pure ⟨⟨_,rfl⟩,True.intro,M2.length,⟨⟨c,?_⟩,?_,⟨0,by omega,?_⟩,kd,by omega⟩,⟨by simp;omega,fun q hq q1 q2 q3=>?_,.inr (by omega)⟩⟩
 ·rw[List.getElem?_set_self (by simp;omega)];rfl
 ·rw[List.getElem?_set_ne (by omega),List.getElem?_append_left (by omega),k2 d (by omega)]
  exact h.dd
 ·rw[List.getElem?_set_ne (by omega)];simp
 ·rw[List.getElem?_set_ne (fun z=>q1 z.symm),List.getElem?_append_left (by omega),k2 q q1]
def Xn{α:Type}(m:DM α)(M:Mo)(c:Str)(M':Mo):Prop:=m M=some (.exc c,M')
section
variable{α β:Type}{m:DM α}{f:α->DM β}{M M1 M':Mo}{c:Str}{a:α}
theorem Xn.bindX(h:Xn m M c M'):Xn (m>>=f) M c M':=by
 show DM.bind m f M=_
 unfold DM.bind
 rw[show m M=_ from h]
theorem Xn.run(h:m M=some (.ok a,M1))(k:Xn (f a) M1 c M'):Xn (m>>=f) M c M':=by
 show DM.bind m f M=_
 unfold DM.bind
 rw[h];exact k
theorem Xn.bindRd{g:Mo->Option α}(a:α)(h:g M=some a)(k:Xn (f a) M c M'):Xn (L3.rd g>>=f) M c M':=Xn.run (a:=a) (M1:=M) (by unfold L3.rd;rw[h];rfl) k
theorem Xn.call{p n:Nat}{fb:ao->DM Fl}{ds:List D}(hp:ds.length=p)(h:Xn (fb (aU n ds)) M c M'):Xn (aK p n fb ds) M c M':=by
 unfold aK
 rw[if_pos hp]
 exact h.bindX
theorem Xn.seqK{f g:ao->DM Fl}{δ:ao}(h:∀K:Fl->DM Fl,(∀δ',K (.nx δ')=g δ')->Xn (f δ>>=K) M c M'):Xn (kh f g δ) M c M':=by
 have:=h (fun r=>match r with | .nx δ'=>g δ' | r=>Pure.pure r) (fun _=>rfl)
 exact this
theorem Xn.raise:Xn (L3.raise c:DM α) M c M:=rfl
end
noncomputable def rF:=aK 3 3 (pX vP)
theorem G5{n:Nat}{M:Mo}{l:List D}(h:M[n]?=some (.lst l)):bh (.ref n) M=some l:=by simp only[bh,h]
theorem Kpr.push{k d p W:Nat}{S:KS}{M:Mo}(h:Kpr k d p W S M)(q:Ro×List Ro):Kpr k d p W ⟨S.R,S.ms,S.ds++[q]⟩ (M.set d (.lst ((S.ds++[q]).map (rT W)))):=by
 obtain⟨c,ho⟩:=h.obj
 obtain⟨j,hj,hp⟩:=h.pw
 have kd:=h.kd
 have dp:=h.dp
 exact⟨⟨c,by rw[List.getElem?_set_ne (by omega)];exact ho⟩,List.getElem?_set_self (List.getElem?_eq_some_iff.mp h.dd).1,⟨j,hj,by rw[List.getElem?_set_ne (by omega)];exact hp⟩,kd,dp⟩
theorem Op.set{k d p:Nat}{M:Mo}{o:DO}:Op k d p M p (M.set d o):=⟨by simp,fun q _ _ h _=>List.getElem?_set_ne (fun z=>h z.symm),.inl rfl⟩
theorem wD{k d p W:Nat}{S:KS}{M:Mo}(h:Kpr k d p W S M){R:Ro}{ms:List Ro}(wk:WK R W)(hW:W<2^60)(hl:S.ds.length<1000) :
  Rn (rF [.ref k,aB R W,bQ W ms]) M fun r M'=>r=.non∧∃p',Kpr k d p' W ⟨R,ms,S.ds++[(S.R,S.ms)]⟩ M'∧Op k d p M p' M':=by
 obtain⟨c,ho⟩:=h.obj
 unfold rF pX jR;dsimp only
 refine Rn.callN rfl ?_
 have st:aU 3 [D.ref k,aB R W,bQ W ms]=[some (.ref k),some (aB R W),some (bQ W ms)]:=rfl
 rw[st]
 have mt:∀x y:D,(eQ [x,y]:DM D)=pure (.tup [x,y]):=fun x y=>dg (by simp)
 refine aG fun K hK=>?_
 simp only[aO,aF,aq]
 refine Rn.bindRd (.ref d) (bD ho rfl) ?_
 refine Rn.bindRd _ (G5 h.dd) ?_
 refine Rn.bindRd (aB S.R W) (bD ho rfl) ?_
 refine Rn.bindRd (bQ W S.ms) (bD ho rfl) ?_
 simp only[mt,az]
 refine Rn.run (yC h.dd (by rw[List.length_map];omega)) ?_
 rw[hK];clear hK K
 have e:S.ds.map (rT W)++[.tup [aB S.R W,bQ W S.ms]]=(S.ds++[(S.R,S.ms)]).map (rT W):=by rw[List.map_append];rfl
 rw[e]
 have h1:=h.push (S.R,S.ms)
 obtain⟨c1,ho1⟩:=h1.obj
 simp only[aO,aF,aq]
 refine Rn.bindRd () (cj ho1 (by decide)) ?_
 refine Rn.bind (Bm h1 wk hW) fun r M' hr=>?_
 obtain⟨rfl,p',h2,o2⟩:=hr
 exact Rn.pure ⟨⟨_,rfl⟩,True.intro,p',h2,Op.set.trans o2⟩
noncomputable def Aq:=aK 1 1 (mQ rF)
noncomputable def vO:=aK 1 1 (iz rF)
noncomputable def vR:=aK 1 3 (iC vP)
noncomputable def Ar:=aK 1 1 mR
theorem lB(a b:List D)(h:a.length+b.length≤1000000):(rd (cL (.tup a) (.tup b)):DM D)=pure (.tup (a++b)):=bJ fun M=>by
 have:dB (a++b)=true:=by unfold dB;exact decide_eq_true (by show (a++b).length≤2^24;rw[List.length_append];omega)
 simp[cL,KH,this]
theorem JF{k d p W:Nat}{S:KS}{M:Mo}(h:Kpr k d p W S M)(wk:WK S.R W)(hW:W<2^60)(hl:S.ds.length<1000)(hm:S.ms.length<1000) :
  Rn (Aq [.ref k]) M fun r M'=>r=.non∧∃p',Kpr k d p' W ⟨S.R,S.ms++[S.R],S.ds++[(S.R,S.ms)]⟩ M'∧Op k d p M p' M':=by
 obtain⟨c,ho⟩:=h.obj
 unfold Aq mQ iG;dsimp only
 refine Rn.callN rfl ?_
 have st:aU 1 [D.ref k]=[some (.ref k)]:=rfl
 rw[st]
 have mt:∀x:D,(eQ [x]:DM D)=pure (.tup [x]):=fun x=>dg (by simp)
 have e:D.tup (S.ms.map (fun R=>aB R W)++[aB S.R W])=bQ W (S.ms++[S.R]):=by unfold bQ;rw[List.map_append];rfl
 have ct:(rd (cL (bQ W S.ms) (.tup [aB S.R W])):DM D)=pure (bQ W (S.ms++[S.R])):=by
  rw[←e];exact lB _ _ (by simp;omega)
 simp only[aO,aF,aq]
 refine Rn.bindRd () (cj ho (by decide)) ?_
 refine Rn.bindRd (aB S.R W) (bD ho rfl) ?_
 refine Rn.bindRd (bQ W S.ms) (bD ho rfl) ?_
 refine Rn.bindRd (aB S.R W) (bD ho rfl) ?_
 simp only[mt,az,ct]
 refine Rn.bind (wD h wk hW hl) fun r M' hr=>?_
 obtain⟨rfl,p',h2,o2⟩:=hr
 exact Rn.pure ⟨⟨_,rfl⟩,True.intro,p',h2,o2⟩
theorem yE(l:List D)(x:D):(rd (bV (.tup (l++[x])) (.int (-1))):DM D)=pure x:=bJ fun M=>by
 show atI (l++[x]) (-1)=some x
 unfold atI
 have:ixN (l++[x]).length (-1)=some l.length:=by
  unfold ixN
  rw[if_neg (by omega),if_pos (by simp;omega)]
  congr 1
  simp;omega
 rw[this];simp
theorem qw(l:List D)(x:D):cutD (l++[x]) none (some (-1))=l:=by
 unfold cutD HT.sIx
 have:((-1:Int)+((l++[x]).length:Int)).toNat=l.length:=by simp;omega
 dsimp only
 rw[if_pos (by omega),this]
 simp
theorem pA(n:Nat):(rd (cg (nD n) (.int 0)):DM D)=pure (.bl (decide (n=0))):=dM n 0
theorem Ij{k d p W:Nat}{R:Ro}{ms:List Ro}{R':Ro}{ds:List (Ro×List Ro)}{M:Mo}(h:Kpr k d p W ⟨R,ms++[R'],ds⟩ M)(wk:WK R' W)(hW:W<2^60)(hl:ds.length<1000) :
  Rn (vO [.ref k]) M fun r M'=>r=.non∧∃p',Kpr k d p' W ⟨R',ms,ds++[(R,ms++[R'])]⟩ M'∧Op k d p M p' M':=by
 obtain⟨c,ho⟩:=h.obj
 unfold vO iz eZ;dsimp only
 refine Rn.callN rfl ?_
 have st:aU 1 [D.ref k]=[some (.ref k)]:=rfl
 rw[st]
 have em:bQ W (ms++[R'])=.tup ((ms.map fun R=>aB R W)++[aB R' W]):=by unfold bQ;rw[List.map_append];rfl
 have ln:(rd (cW [bQ W (ms++[R'])]):DM D)=pure (nD (ms.length+1)):=bJ fun M=>by
  show (some (D.int _))=_
  simp[nD]
 have ng:(rd (qO (.int 1)):DM D)=pure (.int (-1)):=rfl
 have ai:(uT (.int (-1)):DM (Option Int))=pure (some (-1)):=rfl
 have sl:(rd (oV none (some (-1)) (bQ W (ms++[R']))):DM D)=pure (bQ W ms):=bJ fun M=>by
  rw[em]
  show some (D.tup (cutD _ none (some (-1))))=_
  rw[qw];rfl
 refine aG fun K hK=>?_
 simp only[aO,aF,aq]
 refine Rn.bindRd (bQ W (ms++[R'])) (bD ho rfl) ?_
 simp only[ln,az,pA,aX,show decide (ms.length+1=0)=false from decide_eq_false (by omega),if_false,Bool.false_eq_true]
 rw[hK];clear hK K
 simp only[aO,aF,aq]
 refine Rn.bindRd () (cj ho (by decide)) ?_
 refine Rn.bindRd (bQ W (ms++[R'])) (bD ho rfl) ?_
 simp only[ng,az]
 rw[show (rd (bV (bQ W (ms++[R'])) (.int (-1))):DM D)=pure (aB R' W) by rw[em];exact yE _ _,az]
 refine Rn.bindRd (bQ W (ms++[R'])) (bD ho rfl) ?_
 simp only[ai,sl,az]
 refine Rn.bind (wD h wk hW hl) fun r M' hr=>?_
 obtain⟨rfl,p',h2,o2⟩:=hr
 exact Rn.pure ⟨⟨_,rfl⟩,True.intro,p',h2,o2⟩
theorem K3{k d p W:Nat}{R:Ro}{ds:List (Ro×List Ro)}{M:Mo}(h:Kpr k d p W ⟨R,[],ds⟩ M):Xn (vO [.ref k]) M "NoMark" M:=by
 obtain⟨c,ho⟩:=h.obj
 have ln:(rd (cW [bQ W []]):DM D)=pure (nD 0):=rfl
 unfold vO iz eZ;dsimp only
 refine Xn.call rfl ?_
 have st:aU 1 [D.ref k]=[some (.ref k)]:=rfl
 rw[st]
 refine Xn.seqK fun K hK=>?_
 simp only[aO,aF,aq]
 refine Xn.bindRd (bQ W []) (bD ho rfl) ?_
 simp only[ln,az,pA,aX,decide_true,if_true]
 exact Xn.raise.bindX
theorem Hm {n:Nat}{M:Mo}{l:List D}{x:D} (h:M[n]?=some (.lst (l++[x]))):Gb (.ref n) M=some (.ok x,M.set n (.lst l)):=by
 show (match M[n]? with
  |some (.lst l)=>match l[l.length-1]? with
    |some d=>some (R.ok d,M.set n (.lst l.dropLast))
    |none=>none
  |_=>none)=_
 rw[h]
 simp
theorem KN{k d p W:Nat}{R R':Ro}{ms ms':List Ro}{ds:List (Ro×List Ro)}{M:Mo}(h:Kpr k d p W ⟨R,ms,ds++[(R',ms')]⟩ M)(wk:WK R' W)(hW:W<2^60) :
  Rn (vR [.ref k]) M fun r M'=>r=.non∧∃p',Kpr k d p' W ⟨R',ms',ds⟩ M'∧Op k d p M p' M':=by
 obtain⟨c,ho⟩:=h.obj
 have hd:M[d]?=some (.lst (ds.map (rT W)++[rT W (R',ms')])):=by have:=h.dd;rwa [List.map_append] at this
 unfold vR iC fu;dsimp only
 refine Rn.callN rfl ?_
 have st:aU 3 [D.ref k]=[some (.ref k),none,none]:=rfl
 rw[st]
 refine aG fun K hK=>?_
 simp only[aO,aF,aq]
 refine Rn.bindRd (.ref d) (bD ho rfl) ?_
 refine Rn.bindRd (nD (ds.length+1)) (by show (bh (.ref d) M).map _=_;simp only[bh,hd];simp[nD]) ?_
 simp only[az,pA,aX,show decide (ds.length+1=0)=false from decide_eq_false (by omega),if_false,Bool.false_eq_true]
 rw[hK];clear hK K
 refine aG fun K hK=>?_
 simp only[aO,aF,aq]
 refine Rn.bindRd (.ref d) (bD ho rfl) ?_
 refine Rn.run (Hm hd) ?_
 have tg:gT 2 (b7 (gN 1) (b7 (gN 2) gf)) (rT W (R',ms')) [some (.ref k),none,none]=pure [some (.ref k),some (aB R' W),some (bQ W ms')]:=by unfold rT;simp[gT,b7,gf]
 rw[tg,az,hK];clear hK K
 have kd:=h.kd
 have dp:=h.dp
 obtain⟨j,hj,hp⟩:=h.pw
 have h1:Kpr k d p W ⟨R,ms,ds⟩ (M.set d (.lst (ds.map (rT W)))):=⟨⟨c,by rw[List.getElem?_set_ne (by omega)];exact ho⟩,List.getElem?_set_self (List.getElem?_eq_some_iff.mp hd).1,⟨j,hj,by rw[List.getElem?_set_ne (by omega)];exact hp⟩,kd,dp⟩
 obtain⟨c1,ho1⟩:=h1.obj
 simp only[aO,aF,aq]
 refine Rn.bindRd () (cj ho1 (by decide)) ?_
 refine Rn.bind (Bm h1 wk hW) fun r M' hr=>?_
 obtain⟨rfl,p',h2,o2⟩:=hr
 exact Rn.pure ⟨⟨_,rfl⟩,True.intro,p',h2,Op.set.trans o2⟩
theorem Mp{k d p W:Nat}{R:Ro}{ms:List Ro}{M:Mo}(h:Kpr k d p W ⟨R,ms,[]⟩ M):Xn (vR [.ref k]) M "NoDeed" M:=by
 obtain⟨c,ho⟩:=h.obj
 have hd:=h.dd
 unfold vR iC fu;dsimp only
 refine Xn.call rfl ?_
 have st:aU 3 [D.ref k]=[some (.ref k),none,none]:=rfl
 rw[st]
 refine Xn.seqK fun K hK=>?_
 simp only[aO,aF,aq]
 refine Xn.bindRd (.ref d) (bD ho rfl) ?_
 refine Xn.bindRd (nD 0) (by show (bh (.ref d) M).map _=_;simp only[bh,hd];rfl) ?_
 simp only[az,pA,aX,decide_true,if_true]
 exact Xn.raise.bindX
noncomputable def Ao:=aK 2 2 (rK nG)
noncomputable def tY:=aK 2 2 (iW Ao mO)
noncomputable def vW:=aK 2 2 (mZ nG)
noncomputable def vX:=aK 5 6 (jh tY vW)
theorem Ji{x n:Nat}(h:x<n):Ao [nD x,nD n]=pure (.bl true):=by
 have e1:(rd (vd (.int 0) (nD x)):DM D)=pure (.bl true):=by rw[show D.int 0=nD 0 from rfl,ou];simp
 have e2:(rd (sU (nD x) (nD n)):DM D)=pure (.bl true):=by rw[lD,decide_eq_true h]
 simp[Ao,rK,sJ,e1,e2]
theorem uB{R:Ro}{W x:Nat}(h2:R.length≤25)(h:x<R.length):tY [aB R W,nD x]=pure .non:=by
 simp[tY,iW,ux h2,Ji h]
theorem Hu{m:Nat}(h:1≤m):vW [nD m,.int 1]=pure .non:=by
 have e1:(rd (sU (nD m) (.int 1)):DM D)=pure (.bl false):=by rw[show D.int 1=nD 1 from rfl,lD,decide_eq_false (by omega)]
 simp[vW,mZ,sJ,e1]
theorem yW{R:Ro}{W x y z m:Nat}(h2:R.length≤25)(hx:x<R.length)(hy:y<R.length)(hz:z<R.length)(hm:1≤m):vX [aB R W,nD x,nD y,nD z,nD m]=pure .non:=yQ fun M=>by
 unfold vX jh fV;dsimp only
 refine Rn.callN rfl ?_
 have st:aU 6 [aB R W,nD x,nD y,nD z,nD m]=[some (aB R W),some (nD x),some (nD y),some (nD z),some (nD m),none]:=rfl
 rw[st]
 have mt:(eQ [nD x,nD y,nD z]:DM D)=pure (.tup [nD x,nD y,nD z]):=dg (by simp)
 have fo:wL 0 (gN 5) (fun δ=>opt δ[0]?.join>>=fun a=>opt δ[5]?.join>>=fun b=>tY [a,b]>>=fun _=>pure (Fl.nx δ)) (.fix [nD x,nD y,nD z]) [some (aB R W),some (nD x),some (nD y),some (nD z),some (nD m),none]=pure (.nx [some (aB R W),some (nD x),some (nD y),some (nD z),some (nD m),some (nD z)]):=by
  simp[wL,forL,uB h2 hx,uB h2 hy,uB h2 hz]
 refine aG fun K hK=>?_
 simp only[aO,aF,aq,mt,Ba]
 rw[fo,az,hK];clear hK K
 simp only[aO,aF,aq,Hu hm]
 exact Rn.pure ⟨⟨_,rfl⟩,True.intro,rfl⟩
structure Gw(M M':Mo):Prop where
 le:M.length≤M'.length
 keep:∀q,q<M.length->M'[q]?=M[q]?
theorem Gw.at{M M':Mo}(g:Gw M M'){q:Nat}{o:DO}(h:M[q]?=some o):M'[q]?=some o:=(g.keep q (List.getElem?_eq_some_iff.mp h).1).trans h
def gD(r:List Nat)(y z m:Nat):List Nat:=(r.set y (ga r y-m)).set z (ga (r.set y (ga r y-m)) z+m)
def jF(R:Ro)(x y z m:Nat):Ro:=R.set x (gD (gr R x) y z m)
theorem JK{r:List Nat}{y z m:Nat}(hy:y<r.length)(hz:z<r.length)(h:m≤ga r y):(gD r y z m).length=r.length∧(gD r y z m).sum=r.sum:=by
 have s1:=uL (l:=r) (i:=y) (v:=ga r y-m) hy
 have s2:=uL (l:=r.set y (ga r y-m)) (i:=z) (v:=ga (r.set y (ga r y-m)) z+m) (by rw[List.length_set];exact hz)
 unfold gD
 refine⟨by simp,by omega⟩
theorem zP{R:Ro}{W x y z m:Nat}(wk:WK R W)(hx:x<R.length)(hy:y<R.length)(hz:z<R.length)(h:m≤ga (gr R x) y):WK (jF R x y z m) W:=by
 have rl:=wk.row _ (gr_mem hx)
 obtain⟨a,b⟩:=JK (r:=gr R x) (y:=y) (z:=z) (m:=m) (by omega) (by omega) h
 have l:(jF R x y z m).length=R.length:=by simp[jF]
 refine⟨by rw[l];exact wk.n1,by rw[l];exact wk.n25,fun r hr=>?_,fun r hr=>?_,wk.w1⟩
 ·rcases List.mem_or_eq_of_mem_set hr with hr | rfl
  ·rw[l];exact wk.row r hr
  ·rw[l,a,rl]
 ·rcases List.mem_or_eq_of_mem_set hr with hr | rfl
  ·exact wk.sum r hr
  ·rw[b];exact wk.sum _ (gr_mem hx)
noncomputable def vU:=aK 5 6 (ue nF)
theorem Gm(R:Ro):nM R=.tup (R.map nT):=rfl
theorem Le{R:Ro}{W x y z m:Nat}(wk:WK R W)(hx:x<R.length)(hy:y<R.length)(h:y=z∨ga (gr R x) y<m)(M:Mo):Xn (vU [aB R W,nD x,nD y,nD z,nD m]) M "NoMove" M:=by
 have rl:=wk.row _ (gr_mem hx)
 unfold vU ue pK;dsimp only
 refine Xn.call rfl ?_
 have st:aU 6 [aB R W,nD x,nD y,nD z,nD m]=[some (aB R W),some (nD x),some (nD y),some (nD z),some (nD m),none]:=rfl
 rw[st]
 refine Xn.seqK fun K hK=>?_
 have e1:(rd (cg (nD y) (nD z)):DM D)=pure (.bl (decide (y=z))):=dM y z
 have e2:(rd (sU (nD (ga (gr R x) y)) (nD m)):DM D)=pure (.bl (decide (ga (gr R x) y<m))):=lD _ _
 simp only[aO,aF,aq,e1,aX]
 by_cases c:y=z
 ·simp only[c,decide_true,if_true,az]
  exact Xn.raise.bindX
 ·simp only[c,decide_false,Bool.false_eq_true,if_false,cI,az,gW hx,pM (show y<(gr R x).length by omega),e2,aX,decide_eq_true (h.resolve_left c),if_true]
  exact Xn.raise.bindX
theorem JH {R:Ro}{W x y z m:Nat} (wk:WK R W) (hx:x<R.length) (hy:y<R.length) (hz:z<R.length) (h1:y≠z) (h2:m≤ga (gr R x) y) (M:Mo):Rn (vU [aB R W,nD x,nD y,nD z,nD m]) M fun r M'=>r=aB (jF R x y z m) W∧Gw M M':=by
 have rl:=wk.row _ (gr_mem hx)
 have n25:=wk.n25
 unfold vU ue pK;dsimp only
 refine Rn.call rfl ?_
 have st:aU 6 [aB R W,nD x,nD y,nD z,nD m]=[some (aB R W),some (nD x),some (nD y),some (nD z),some (nD m),none]:=rfl
 rw[st]
 refine aG fun K hK=>?_
 have e1:(rd (cg (nD y) (nD z)):DM D)=pure (.bl (decide (y=z))):=dM y z
 have e2:(rd (sU (nD (ga (gr R x) y)) (nD m)):DM D)=pure (.bl (decide (ga (gr R x) y<m))):=lD _ _
 simp only[aO,aF,aq,e1,aX,decide_eq_false h1,Bool.false_eq_true,if_false,cI,gW hx,pM (show y<(gr R x).length by omega),e2,decide_eq_false (show ¬ ga (gr R x) y<m by omega)]
 rw[hK];clear hK K
 refine aG fun K hK=>?_
 simp only[aO,aF,aq,cI,gW hx]
 refine Rn.bindRd ((gr R x).map nD) rfl ?_
 refine Rn.dD (by simp;omega) ?_
 rw[hK];clear hK K
 have r0:(M++[DO.lst ((gr R x).map nD)])[M.length]?=some (.lst ((gr R x).map nD)):=by simp
 have yl:y<(gr R x).length:=by omega
 have zl:z<((gr R x).set y (ga (gr R x) y-m)).length:=by rw[List.length_set];omega
 refine aG fun K hK=>?_
 simp only[cA,aO,aF,aq]
 refine Rn.bindRd (nD (ga (gr R x) y)) (pB (i:=y) r0 (by rw[List.getElem?_map,List.getElem?_eq_getElem yl,jC yl];rfl)) ?_
 rw[show (rd (oX (nD (ga (gr R x) y)) (nD m)):DM D)=pure (nD (ga (gr R x) y-m)) from tR h2,az]
 refine Rn.run (gP r0 (by rw[List.length_map];exact yl)) ?_
 rw[hK,←List.map_set];clear hK K
 have r1:((M++[DO.lst ((gr R x).map nD)]).set M.length (.lst (((gr R x).set y (ga (gr R x) y-m)).map nD)))[M.length]?=some (.lst (((gr R x).set y (ga (gr R x) y-m)).map nD)):=List.getElem?_set_self (by simp)
 refine aG fun K hK=>?_
 simp only[cA,aO,aF,aq]
 refine Rn.bindRd (nD (ga ((gr R x).set y (ga (gr R x) y-m)) z)) (pB (i:=z) r1 (by rw[List.getElem?_map,List.getElem?_eq_getElem zl,jC zl];rfl)) ?_
 rw[yR,az]
 refine Rn.run (gP r1 (by rw[List.length_map];exact zl)) ?_
 rw[hK,←List.map_set];clear hK K
 have r2:(((M++[DO.lst ((gr R x).map nD)]).set M.length (.lst (((gr R x).set y (ga (gr R x) y-m)).map nD))).set M.length (.lst ((gD (gr R x) y z m).map nD)))[M.length]?=some (.lst ((gD (gr R x) y z m).map nD)):=List.getElem?_set_self (by simp)
 have g2:Gw M (((M++[DO.lst ((gr R x).map nD)]).set M.length (.lst (((gr R x).set y (ga (gr R x) y-m)).map nD))).set M.length (.lst ((gD (gr R x) y z m).map nD))):=⟨by simp,fun q hq=>by
  rw[List.getElem?_set_ne (by omega),List.getElem?_set_ne (by omega),List.getElem?_append_left hq]⟩
 show Rn _ (((M++[DO.lst ((gr R x).map nD)]).set M.length (.lst (((gr R x).set y (ga (gr R x) y-m)).map nD))).set M.length (.lst ((gD (gr R x) y z m).map nD))) _
 revert r2 g2
 generalize ((M++[DO.lst ((gr R x).map nD)]).set M.length (.lst (((gr R x).set y (ga (gr R x) y-m)).map nD))).set M.length (.lst ((gD (gr R x) y z m).map nD))=M2
 intro r2 g2
 have s1:(rd (oV none (some (x:Int)) (nM R)):DM D)=pure (.tup ((R.take x).map nT)):=bJ fun M=>by
  show some (D.tup (cutD (R.map nT) none (some (x:Int))))=_
  have e:cutD (R.map nT) none (some (x:Int))=(R.take x).map nT:=by
   unfold cutD
   rw[HT.sIx_none,HT.sIx_nat,List.drop_zero,Nat.sub_zero,List.length_map,Nat.min_eq_left (by omega),List.map_take]
  rw[e]
 have s2:(rd (oV (some ((x+1:Nat):Int)) none (nM R)):DM D)=pure (.tup ((R.drop (x+1)).map nT)):=bJ fun M=>by
  show some (D.tup (cutD (R.map nT) (some ((x+1:Nat):Int)) none))=_
  have e:cutD (R.map nT) (some ((x+1:Nat):Int)) none=(R.drop (x+1)).map nT:=by
   unfold cutD
   rw[HT.sIx_none,HT.sIx_nat,List.length_map,Nat.min_eq_left (by omega),List.map_drop]
   exact List.take_of_length_le (by simp)
  rw[e]
 have tp:lK [.ref M.length] M2=some (nT (gD (gr R x) y z m)):=by
  show (gZ (.ref M.length) M2).map D.tup=_
  simp only[gZ,bh,r2];rfl
 have mt:∀d:D,(eQ [d]:DM D)=pure (.tup [d]):=fun d=>dg (by simp)
 have ax:(uT (nD x):DM (Option Int))=pure (some (x:Int)):=rfl
 have a1:(rd (cL (nD x) (.int 1)):DM D)=pure (nD (x+1)):=pL x
 have ax1:(uT (nD (x+1)):DM (Option Int))=pure (some ((x+1:Nat):Int)):=rfl
 simp only[aO,aF,aq,cI,ax,s1]
 refine Rn.bindRd _ tp ?_
 simp only[mt,az,a1,ax1,s2]
 have tl:(R.take x).length≤25:=by rw[List.length_take];omega
 have dl:(R.drop (x+1)).length≤25:=by rw[List.length_drop];omega
 rw[lB _ _ (by simp;omega),az,lB _ _ (by simp;omega),az]
 have em:D.tup ((R.take x).map nT++[nT (gD (gr R x) y z m)]++(R.drop (x+1)).map nT)=nM (jF R x y z m):=by
  rw[Gm]
  congr 1
  unfold jF
  rw[List.set_eq_take_append_cons_drop,if_pos hx]
  simp
 rw[em,xX (zP wk hx hy hz h2),az]
 exact Rn.pure ⟨_,rfl,rfl,g2⟩
noncomputable def vQ:=aK 5 5 (iB vX vU rF)
theorem Kpr.gw{k d p W:Nat}{S:KS}{M M':Mo}(h:Kpr k d p W S M)(g:Gw M M'):Kpr k d p W S M':=by
 obtain⟨c,e⟩:=h.obj
 obtain⟨j,hj,e2⟩:=h.pw
 exact⟨⟨c,g.at e⟩,g.at h.dd,⟨j,hj,g.at e2⟩,h.kd,h.dp⟩
theorem Gw.op{k d p:Nat}{M M':Mo}(g:Gw M M'):Op k d p M p M':=⟨g.le,fun q hq _ _ _=>g.keep q hq,.inl rfl⟩
theorem Ju{k d p W x y z m:Nat}{S:KS}{M:Mo}(h:Kpr k d p W S M)(wk:WK S.R W)(hW:W<2^60)(hl:S.ds.length<1000)(hx:x<S.R.length)(hy:y<S.R.length)(hz:z<S.R.length)(hm:1≤m)(h1:y≠z)(h2:m≤ga (gr S.R x) y) :
  Rn (vQ [.ref k,nD x,nD y,nD z,nD m]) M fun r M'=>r=.non∧∃p',Kpr k d p' W ⟨jF S.R x y z m,S.ms,S.ds++[(S.R,S.ms)]⟩ M'∧Op k d p M p' M':=by
 obtain⟨c,ho⟩:=h.obj
 unfold vQ iB fj;dsimp only
 refine Rn.callN rfl ?_
 have st:aU 5 [.ref k,nD x,nD y,nD z,nD m]=[some (.ref k),some (nD x),some (nD y),some (nD z),some (nD m)]:=rfl
 rw[st]
 refine aG fun K hK=>?_
 simp only[aO,aF,aq]
 refine Rn.bindRd (aB S.R W) (bD ho rfl) ?_
 simp only[yW wk.n25 hx hy hz hm,az]
 rw[hK];clear hK K
 simp only[aO,aF,aq]
 refine Rn.bindRd () (cj ho (by decide)) ?_
 refine Rn.bindRd (aB S.R W) (bD ho rfl) ?_
 refine Rn.bind (JH wk hx hy hz h1 h2 M) fun r M1 hr=>?_
 obtain⟨rfl,g⟩:=hr
 have hg:=h.gw g
 refine Rn.bindRd (bQ W S.ms) (bD (g.at ho) rfl) ?_
 refine Rn.bind (wD hg (zP wk hx hy hz h2) hW hl) fun r M' hr=>?_
 obtain⟨rfl,p',h2,o2⟩:=hr
 exact Rn.pure ⟨⟨_,rfl⟩,True.intro,p',h2,g.op.trans o2⟩
theorem K9{k d p W x y z m:Nat}{S:KS}{M:Mo}(h:Kpr k d p W S M)(wk:WK S.R W)(hx:x<S.R.length)(hy:y<S.R.length)(hz:z<S.R.length)(hm:1≤m)(h1:y=z∨ga (gr S.R x) y<m):Xn (vQ [.ref k,nD x,nD y,nD z,nD m]) M "NoMove" M:=by
 obtain⟨c,ho⟩:=h.obj
 unfold vQ iB fj;dsimp only
 refine Xn.call rfl ?_
 have st:aU 5 [.ref k,nD x,nD y,nD z,nD m]=[some (.ref k),some (nD x),some (nD y),some (nD z),some (nD m)]:=rfl
 rw[st]
 refine Xn.seqK fun K hK=>?_
 simp only[aO,aF,aq]
 refine Xn.bindRd (aB S.R W) (bD ho rfl) ?_
 simp only[yW wk.n25 hx hy hz hm,az]
 rw[hK];clear hK K
 simp only[aO,aF,aq]
 refine Xn.bindRd () (cj ho (by decide)) ?_
 refine Xn.bindRd (aB S.R W) (bD ho rfl) ?_
 exact (Le wk hx hy h1 M).bindX
inductive Dd where
 |mv (x y z m:Nat)
 |mark
 |back
 |undo
noncomputable def Dd.D:Dd->D
 |.mv x y z m=>.tup [.str "move",nD x,nD y,nD z,nD m]
 |.mark=>.tup [.str "mark"]
 |.back=>.tup [.str "back"]
 |.undo=>.tup [.str "undo"]
def Dd.ok(n:Nat):Dd->Prop
 |.mv x y z m=>x<n∧y<n∧z<n∧1≤m
 |_=>True
inductive Stp:KS->Dd->KS->Prop
 |mv {R:Ro}{ms ds}{x y z m:Nat}:y≠z->m≤ga (gr R x) y->Stp ⟨R,ms,ds⟩ (.mv x y z m) ⟨jF R x y z m,ms,ds++[(R,ms)]⟩
 |mark {R:Ro}{ms ds}:Stp ⟨R,ms,ds⟩ .mark ⟨R,ms++[R],ds++[(R,ms)]⟩
 |back {R R':Ro}{ms ds}:Stp ⟨R,ms++[R'],ds⟩ .back ⟨R',ms,ds++[(R,ms++[R'])]⟩
 |undo {R R':Ro}{ms ms' ds}:Stp ⟨R,ms,ds++[(R',ms')]⟩ .undo ⟨R',ms',ds⟩
inductive Ref:KS->Dd->Prop
 |mv {R:Ro}{ms ds}{x y z m:Nat}:(y=z∨ga (gr R x) y<m)->Ref ⟨R,ms,ds⟩ (.mv x y z m)
 |back {R:Ro}{ds}:Ref ⟨R,[],ds⟩ .back
 |undo {R:Ro}{ms}:Ref ⟨R,ms,[]⟩ .undo
theorem Stp.ok {n W:Nat}{S S':KS}{q:Dd} (h:Stp S q S') (k:KOk n W S) (hq:q.ok n):KOk n W S':=by
 obtain⟨kR,kms,kds⟩:=k
 cases h with
 |mv h1 h2=>
   obtain⟨a,b,c,e⟩:=hq
   refine⟨⟨zP kR.1 (by rw[kR.2];exact a) (by rw[kR.2];exact b) (by rw[kR.2];exact c) h2,by simp[jF,kR.2]⟩,kms,fun q hq=>?_⟩
   rcases List.mem_append.mp hq with hq | hq
   ·exact kds q hq
   ·rw[List.mem_singleton.mp hq];exact⟨kR,kms⟩
 | mark=>
   refine⟨kR,fun R hR=>?_,fun q hq=>?_⟩
   ·rcases List.mem_append.mp hR with hR | hR
    ·exact kms R hR
    ·rw[List.mem_singleton.mp hR];exact kR
   ·rcases List.mem_append.mp hq with hq | hq
    ·exact kds q hq
    ·rw[List.mem_singleton.mp hq];exact⟨kR,kms⟩
 |back=>
   refine⟨kms _ (by simp),fun R hR=>kms R (by simp[hR]),fun q hq=>?_⟩
   rcases List.mem_append.mp hq with hq | hq
   ·exact kds q hq
   ·rw[List.mem_singleton.mp hq];exact⟨kR,kms⟩
 |undo=>
   have:=kds (_,_) (List.mem_append_right _ (List.mem_singleton.mpr rfl))
   exact⟨this.1,this.2,fun q hq=>kds q (List.mem_append_left _ hq)⟩
noncomputable def vL:=aK 2 2 (jN vQ Aq vO vR)
theorem dX(a b:Str):(rd (cg (.str a) (.str b)):DM D)=pure (.bl (decide (a=b))):=rfl
theorem IV {k d p n W:Nat}{S S':KS}{q:Dd}{M:Mo} (h:Kpr k d p W S M) (o:KOk n W S) (hW:W<2 ^ 60) (hl:S.ds.length<1000) (hm:S.ms.length<1000) (hq:q.ok n) (hs:Stp S q S') :
  Rn (vL [.ref k,q.D]) M fun r M'=>r=.non∧∃p',Kpr k d p' W S' M'∧Op k d p M p' M':=by
 obtain⟨c,ho⟩:=h.obj
 obtain⟨⟨wk,rn⟩,oms,ods⟩:=o
 unfold vL jN gR;dsimp only
 refine Rn.call rfl ?_
 have st:aU 2 [.ref k,q.D]=[some (.ref k),some q.D]:=rfl
 rw[st]
 cases hs with
 |mv h1 h2=>
   rename_i R ms ds x y z m
   obtain⟨a,b,e,f⟩:=hq
   have i0:(rd (bV (Dd.D (.mv x y z m)) (.int 0)):DM D)=pure (.str "move"):=rfl
   have i1:(rd (bV (Dd.D (.mv x y z m)) (.int 1)):DM D)=pure (nD x):=rfl
   have i2:(rd (bV (Dd.D (.mv x y z m)) (.int 2)):DM D)=pure (nD y):=rfl
   have i3:(rd (bV (Dd.D (.mv x y z m)) (.int 3)):DM D)=pure (nD z):=rfl
   have i4:(rd (bV (Dd.D (.mv x y z m)) (.int 4)):DM D)=pure (nD m):=rfl
   refine dU fun K hK hR=>?_
   simp only[aO,aF,aq,i0,dX,aX,decide_true,if_true]
   refine Rn.bindRd () (cj ho (by decide)) ?_
   simp only[i1,i2,i3,i4,az,List.length_cons,List.length_nil,if_true,List.cons_append,List.nil_append]
   refine Rn.bind (Ju h wk hW hl (by dsimp only at rn ⊢;omega) (by dsimp only at rn ⊢;omega) (by dsimp only at rn ⊢;omega) f h1 h2) fun r M' hr=>?_
   rw[hR]
   exact Rn.pure ⟨_,rfl,hr⟩
 |mark=>
   have i0:(rd (bV (Dd.D .mark) (.int 0)):DM D)=pure (.str "mark"):=rfl
   refine aG fun K hK=>?_
   simp only[aO,aF,aq,i0,dX,aX,show decide (("mark":Str) = "move")=false from by decide,Bool.false_eq_true,if_false]
   rw[hK];clear hK K
   refine dU fun K hK hR=>?_
   simp only[aO,aF,aq,i0,dX,aX,decide_true,if_true]
   refine Rn.bindRd () (cj ho (by decide)) ?_
   refine Rn.bind (JF h wk hW hl hm) fun r M' hr=>?_
   rw[hR]
   exact Rn.pure ⟨_,rfl,hr⟩
 |back=>
   have i0:(rd (bV (Dd.D .back) (.int 0)):DM D)=pure (.str "back"):=rfl
   refine aG fun K hK=>?_
   simp only[aO,aF,aq,i0,dX,aX,show decide (("back":Str) = "move")=false from by decide,Bool.false_eq_true,if_false]
   rw[hK];clear hK K
   refine aG fun K hK=>?_
   simp only[aO,aF,aq,i0,dX,aX,show decide (("back":Str) = "mark")=false from by decide,Bool.false_eq_true,if_false]
   rw[hK];clear hK K
   simp only[aO,aF,aq,i0,dX,aX,decide_true,Bool.false_eq_true,if_false,if_true]
   refine Rn.bindRd () (cj ho (by decide)) ?_
   refine Rn.bind (Ij h (oms _ (by simp)).1 hW hl) fun r M' hr=>?_
   exact Rn.pure ⟨_,rfl,hr⟩
 |undo=>
   have i0:(rd (bV (Dd.D .undo) (.int 0)):DM D)=pure (.str "undo"):=rfl
   refine aG fun K hK=>?_
   simp only[aO,aF,aq,i0,dX,aX,show decide (("undo":Str) = "move")=false from by decide,Bool.false_eq_true,if_false]
   rw[hK];clear hK K
   refine aG fun K hK=>?_
   simp only[aO,aF,aq,i0,dX,aX,show decide (("undo":Str) = "mark")=false from by decide,Bool.false_eq_true,if_false]
   rw[hK];clear hK K
   simp only[aO,aF,aq,i0,dX,aX,show decide (("undo":Str) = "back")=false from by decide,Bool.false_eq_true,if_false,if_true]
   refine Rn.bindRd () (cj ho (by decide)) ?_
   refine Rn.bind (KN h (ods (_,_) (List.mem_append_right _ (List.mem_singleton.mpr rfl))).1.1 hW) fun r M' hr=>?_
   exact Rn.pure ⟨_,rfl,hr⟩
def Dd.c:Dd->Str
 |.mv _ _ _ _=>"NoMove"
 |.mark=>"NoMark"
 |.back=>"NoMark"
 |.undo=>"NoDeed"
theorem K5 {k d p n W:Nat}{S:KS}{q:Dd}{M:Mo} (h:Kpr k d p W S M) (o:KOk n W S) (hq:q.ok n) (hs:Ref S q) :
  Xn (vL [.ref k,q.D]) M q.c M:=by
 obtain⟨c,ho⟩:=h.obj
 obtain⟨⟨wk,rn⟩,oms,ods⟩:=o
 unfold vL jN gR;dsimp only
 have st:aU 2 [.ref k,q.D]=[some (.ref k),some q.D]:=rfl
 cases hs with
 |mv h1=>
   rename_i R ms ds x y z m
   obtain⟨a,b,e,f⟩:=hq
   have i0:(rd (bV (Dd.D (.mv x y z m)) (.int 0)):DM D)=pure (.str "move"):=rfl
   have i1:(rd (bV (Dd.D (.mv x y z m)) (.int 1)):DM D)=pure (nD x):=rfl
   have i2:(rd (bV (Dd.D (.mv x y z m)) (.int 2)):DM D)=pure (nD y):=rfl
   have i3:(rd (bV (Dd.D (.mv x y z m)) (.int 3)):DM D)=pure (nD z):=rfl
   have i4:(rd (bV (Dd.D (.mv x y z m)) (.int 4)):DM D)=pure (nD m):=rfl
   refine Xn.call rfl ?_
   rw[st]
   refine Xn.seqK fun K hK=>?_
   simp only[aO,aF,aq,i0,dX,aX,decide_true,if_true]
   refine Xn.bindRd () (cj ho (by decide)) ?_
   simp only[i1,i2,i3,i4,az,List.length_cons,List.length_nil,if_true,List.cons_append,List.nil_append]
   exact (K9 h wk (by dsimp only at rn ⊢;omega) (by dsimp only at rn ⊢;omega) (by dsimp only at rn ⊢;omega) f h1).bindX
 |back=>
   have i0:(rd (bV (Dd.D .back) (.int 0)):DM D)=pure (.str "back"):=rfl
   refine Xn.call rfl ?_
   rw[st]
   refine Xn.seqK fun K hK=>?_
   simp only[aO,aF,aq,i0,dX,aX,show decide (("back":Str) = "move")=false from by decide,Bool.false_eq_true,if_false]
   rw[hK];clear hK K
   refine Xn.seqK fun K hK=>?_
   simp only[aO,aF,aq,i0,dX,aX,show decide (("back":Str) = "mark")=false from by decide,Bool.false_eq_true,if_false]
   rw[hK];clear hK K
   simp only[aO,aF,aq,i0,dX,aX,decide_true,if_true]
   refine Xn.bindRd () (cj ho (by decide)) ?_
   exact (K3 h).bindX
 |undo=>
   have i0:(rd (bV (Dd.D .undo) (.int 0)):DM D)=pure (.str "undo"):=rfl
   refine Xn.call rfl ?_
   rw[st]
   refine Xn.seqK fun K hK=>?_
   simp only[aO,aF,aq,i0,dX,aX,show decide (("undo":Str) = "move")=false from by decide,Bool.false_eq_true,if_false]
   rw[hK];clear hK K
   refine Xn.seqK fun K hK=>?_
   simp only[aO,aF,aq,i0,dX,aX,show decide (("undo":Str) = "mark")=false from by decide,Bool.false_eq_true,if_false]
   rw[hK];clear hK K
   simp only[aO,aF,aq,i0,dX,aX,show decide (("undo":Str) = "back")=false from by decide,Bool.false_eq_true,if_false]
   refine Xn.bindRd () (cj ho (by decide)) ?_
   exact (Mp h).bindX
noncomputable def vN:=aK 2 2 mU
theorem HW{p:Mo->Bool}{m:DM D}(h:∀M,p M=true):dm p m=m:=by
 funext M
 unfold dm
 rw[if_pos (h M)]
theorem Oa (a b:List (List Nat)) (ha:a.length≤1000000):(rd (cg (nM a) (nM b)):DM D)=pure (.bl (decide (a=b))):=bJ fun M=>by
 have this:Option.map (fun x=>(R.ok x,M)) (iu (nM a) (nM b) M)=some (R.ok (D.bl !decide (a=b)),M):=congrFun (Bu a b ha) M
 unfold iu at this
 show (L3.eqB (nM a) (nM b)).map D.bl=_
 revert this
 cases (L3.eqB (nM a) (nM b)) with
 |none=>intro e;cases e
 |some x=>
   intro e
   simp only[Option.map_some,Option.some.injEq,Prod.mk.injEq,R.ok.injEq,D.bl.injEq,and_true] at e
   simp only[Option.map_some]
   cases x<;>simp_all
theorem K6{R R':List (List Nat)}{W W':Nat}(h:R.length≤1000000):vN [aB R W,aB R' W']=pure (.bl (decide (R=R'))):=by
 have i:(rd (qJ "Walk" [aB R' W',.cls "Walk"]):DM D)=pure (.bl true):=bJ fun M=>rfl
 simp[vN,mU,i,cI,Oa R R' h]
theorem Jc{R R':List (List Nat)}{W W':Nat}(h:R.length≤1000000):Jb "Walk" vN (aB R W) (aB R' W')=pure (.bl (decide (R=R'))):=by
 show (if ("Walk":Str) = "Walk" then dm _ _ else stuck)=_
 rw[if_pos rfl,HW (p:=oA "Walk" (aB R' W')) (fun M=>rfl)]
 show (vN [aB R W,aB R' W']>>=DQ)=_
 rw[K6 h,az];rfl
def Nm(k:Nat)(d:D):Prop:=∃p,toPy d=some p∧p.canLay0=true∧p.depth≤k∧PyData.eqv p p=true
def N6(k:Nat)(l:List D):Prop:=∃ps,cV l=some ps∧PyData.canLayAll0 ps=true∧PyData.depthAll ps≤k∧PyData.eqvAll ps ps=true
theorem sW {k:Nat}:∀ {l:List D},(∀ d∈l,Nm k d)->N6 k l
 |[],_=>⟨[],rfl,rfl,Nat.zero_le _,rfl⟩
 |d::l,h=>by
   obtain⟨p,a1,a2,a3,a4⟩:=h d (.head _)
   obtain⟨ps,b1,b2,b3,b4⟩:=sW (l:=l) fun x hx=>h x (.tail _ hx)
   refine⟨p::ps,by simp[cV,a1,b1],by simp[PyData.canLayAll0,a2,b2],by simp only[PyData.depthAll];omega,by simp[PyData.eqvAll,a4,b4]⟩
theorem Cj{k:Nat}(i:Int):Nm k (.int i):=⟨.int i,rfl,rfl,Nat.zero_le _,by simp[PyData.eqv]⟩
theorem lg{k:Nat}{l:List D}(h:∀d∈l,Nm k d):Nm (k+1) (.tup l):=by
 obtain⟨ps,b1,b2,b3,b4⟩:=sW h
 exact⟨.tuple ps,by simp[toPy,b1],by simp[PyData.canLay0,b2],by simp only[PyData.depth];omega,by simp[PyData.eqv,b4]⟩
theorem Ck{k:Nat}{l:List D}(h:∀d∈l,Nm k d):Nm (k+1) (.lst l):=by
 obtain⟨ps,b1,b2,b3,b4⟩:=sW h
 exact⟨.list ps,by simp[toPy,b1],by simp[PyData.canLay0,b2],by simp only[PyData.depth];omega,by simp[PyData.eqv,b4]⟩
theorem Lg{k:Nat}(l:List Nat):Nm (k+1) (nT l):=lg fun d hd=>by obtain⟨x,_,rfl⟩:=List.mem_map.mp hd;exact Cj _
theorem zR{k:Nat}(R:Ro):Nm (k+2) (nM R):=lg fun d hd=>by obtain⟨x,_,rfl⟩:=List.mem_map.mp hd;exact Lg _
noncomputable def Fv:=aK 2 2 (iU uQ)
noncomputable def Ah:=Eo "Keeper" Fv
theorem lJ{c f:Str}{k:Nat}{M:Mo}{ns:List Str}{vs:List D}{d:D}(e:M[k]?=some (.ins c ns vs))(hl:ns.length=vs.length)(hz:ns.length<1000):jK c f (.ref k) d M=some (.ok (),M.set k (.ins c (putN f ns) (bR f d ns vs))):=by
 unfold jK
 simp only[e]
 rw[if_pos ⟨True.intro,hl,hz⟩]
theorem BR(R:Ro)(W:Nat):(rd (qJ "Walk" [aB R W,.cls "Walk"]):DM D)=pure (.bl true):=rfl
theorem Jv {R:Ro}{W:Nat} (wk:WK R W) (hW:W<2 ^ 60) (M:Mo):Rn (Ah [aB R W]) M fun r M'=>r=.ref M.length∧Kpr M.length (M.length + 1) (M.length + 2) W ⟨R,[],[]⟩ M'∧Gw M M':=by
 have body:Rn (Fv (.ref M.length::[aB R W])) (M++[.ins "Keeper" [] []]) fun r M'=>r=.non∧Kpr M.length (M.length+1) (M.length+2) W ⟨R,[],[]⟩ M'∧Gw M M':=by
  unfold Fv iU dZ;dsimp only
  refine Rn.callN rfl ?_
  have st:aU 2 [.ref M.length,aB R W]=[some (.ref M.length),some (aB R W)]:=rfl
  rw[st]
  have ip:(rd (jm "Walk" "power" (aB R W)):DM Unit)=pure ():=wQ (by decide) R W
  have mt:(eQ []:DM D)=pure (.tup []):=dg (by simp)
  refine aG fun K hK=>?_
  simp only[aO,aF,aq,BR,jt,Bool.not_true,Bool.false_eq_true,if_false]
  rw[hK];clear hK K
  refine aG fun K hK=>?_
  simp only[aO,aF,aq]
  refine Rn.run (lJ (k:=M.length) (ns:=[]) (vs:=[]) (by simp) rfl (by decide)) ?_
  rw[hK];clear hK K
  rw[show (M++[DO.ins "Keeper" [] []]).set M.length (.ins "Keeper" (putN "kept" []) (bR "kept" (aB R W) [] []))=M++[.ins "Keeper" ["kept"] [aB R W]] by simp[putN,bR]]
  refine aG fun K hK=>?_
  simp only[aO,aF,aq,mt]
  refine Rn.run (lJ (k:=M.length) (ns:=["kept"]) (vs:=[aB R W]) (by simp) rfl (by decide)) ?_
  rw[hK];clear hK K
  rw[show (M++[DO.ins "Keeper" ["kept"] [aB R W]]).set M.length (.ins "Keeper" (putN "marks" ["kept"]) (bR "marks" (.tup []) ["kept"] [aB R W]))=M++[.ins "Keeper" ["kept", "marks"] [aB R W,.tup []]] by simp[show putN "marks" ["kept"]=(["kept", "marks"]:List Str) from by decide,show bR "marks" (D.tup []) ["kept"] [aB R W]=[aB R W,.tup []] from rfl]]
  refine aG fun K hK=>?_
  simp only[aO,aF,aq]
  refine Rn.dD (by simp) ?_
  have o3:((M++[DO.ins "Keeper" ["kept", "marks"] [aB R W,.tup []]])++[DO.lst []])[M.length]?=some (.ins "Keeper" ["kept", "marks"] [aB R W,.tup []]):=by rw[List.getElem?_append_left (by simp)];simp
  refine Rn.run (lJ o3 rfl (by decide)) ?_
  rw[hK];clear hK K o3
  have e3:(((M++[DO.ins "Keeper" ["kept", "marks"] [aB R W,.tup []]])++[DO.lst []]).set M.length (.ins "Keeper" (putN "deeds" ["kept", "marks"]) (bR "deeds" (.ref (M++[DO.ins "Keeper" ["kept", "marks"] [aB R W,.tup []]]).length) ["kept", "marks"] [aB R W,.tup []])))=M++[DO.ins "Keeper" ["kept", "marks", "deeds"] [aB R W,.tup [],.ref (M.length+1)],.lst []]:=by
   rw[List.append_assoc,List.set_append_right _ _ (Nat.le_refl _),Nat.sub_self]
   simp[show putN "deeds" ["kept", "marks"]=(["kept", "marks", "deeds"]:List Str) from by decide,show ∀x:D,bR "deeds" x ["kept", "marks"] [aB R W,.tup []]=[aB R W,.tup [],x] from fun x=>rfl]
  rw[e3];clear e3
  refine aG fun K hK=>?_
  simp only[aO,aF,aq,ip,Mx wk hW]
  refine Rn.dD (by simp) ?_
  have o4:((M++[DO.ins "Keeper" ["kept", "marks", "deeds"] [aB R W,.tup [],.ref (M.length+1)],.lst []])++[DO.lst [nM (jQ R 0)]])[M.length]?=some (.ins "Keeper" ["kept", "marks", "deeds"] [aB R W,.tup [],.ref (M.length+1)]):=by rw[List.getElem?_append_left (by simp)];simp
  refine Rn.run (lJ o4 rfl (by decide)) ?_
  rw[hK];clear hK K o4
  have e4:(((M++[DO.ins "Keeper" ["kept", "marks", "deeds"] [aB R W,.tup [],.ref (M.length+1)],.lst []])++[DO.lst [nM (jQ R 0)]]).set M.length (.ins "Keeper" (putN "powers" ["kept", "marks", "deeds"]) (bR "powers" (.ref (M++[DO.ins "Keeper" ["kept", "marks", "deeds"] [aB R W,.tup [],.ref (M.length+1)],.lst []]).length) ["kept", "marks", "deeds"] [aB R W,.tup [],.ref (M.length+1)])))=M++[DO.ins "Keeper" ["kept", "marks", "deeds", "powers"] [aB R W,.tup [],.ref (M.length+1),.ref (M.length+2)],.lst [],.lst [nM (jQ R 0)]]:=by
   rw[List.append_assoc,List.set_append_right _ _ (Nat.le_refl _),Nat.sub_self]
   simp[show putN "powers" ["kept", "marks", "deeds"]=(["kept", "marks", "deeds", "powers"]:List Str) from by decide,show ∀x y:D,bR "powers" x ["kept", "marks", "deeds"] [aB R W,.tup [],y]=[aB R W,.tup [],y,x] from fun x y=>rfl]
  rw[e4];clear e4
  simp only[aO,aF,aq]
  refine Rn.run (lJ (k:=M.length) (ns:=["kept", "marks", "deeds", "powers"]) (vs:=[aB R W,.tup [],.ref (M.length+1),.ref (M.length+2)]) (by simp) rfl (by decide)) ?_
  have e5:((M++[DO.ins "Keeper" ["kept", "marks", "deeds", "powers"] [aB R W,.tup [],.ref (M.length+1),.ref (M.length+2)],.lst [],.lst [nM (jQ R 0)]]).set M.length (.ins "Keeper" (putN "made" ["kept", "marks", "deeds", "powers"]) (bR "made" (.int 0) ["kept", "marks", "deeds", "powers"] [aB R W,.tup [],.ref (M.length+1),.ref (M.length+2)])))=M++[DO.ins "Keeper" cJ [aB R W,.tup [],.ref (M.length+1),.ref (M.length+2),.int 0],.lst [],.lst [nM (jQ R 0)]]:=by
   rw[List.set_append_right _ _ (Nat.le_refl _),Nat.sub_self]
   simp[show putN "made" ["kept", "marks", "deeds", "powers"]=cJ from by decide,show ∀x y z:D,bR "made" x ["kept", "marks", "deeds", "powers"] [aB R W,.tup [],y,z]=[aB R W,.tup [],y,z,x] from fun x y z=>rfl]
  rw[e5];clear e5
  refine Rn.pure ⟨⟨_,rfl⟩,True.intro,⟨⟨0,?_⟩,?_,⟨0,by omega,?_⟩,by omega,by omega⟩,⟨by simp,fun q hq=>List.getElem?_append_left hq⟩⟩
  ·rw[List.getElem?_append_right (Nat.le_refl _),Nat.sub_self];rfl
  ·rw[List.getElem?_append_right (by omega),show M.length+1-M.length=1 by omega];rfl
  ·rw[List.getElem?_append_right (by omega),show M.length+2-M.length=2 by omega];rfl
 unfold Ah Eo
 refine Rn.run (a:=.ref M.length) (M':=M++[.ins "Keeper" [] []]) rfl ?_
 refine Rn.bind body fun r M' hr=>?_
 obtain⟨rfl,a,b⟩:=hr
 exact Rn.pure ⟨rfl,a,b⟩
noncomputable def kj:=aK 1 1 (jg mO)
theorem BV{k d p W:Nat}{S:KS}{M:Mo}(h:Kpr k d p W S M)(h2:S.R.length≤25):Rn (kj [.ref k]) M fun r M'=>r=nD S.R.length∧M'=M:=by
 obtain⟨c,ho⟩:=h.obj
 unfold kj jg fU;dsimp only
 refine Rn.call rfl ?_
 have st:aU 1 [.ref k]=[some (.ref k)]:=rfl
 rw[st]
 simp only[aO,aF,aq]
 refine Rn.bindRd (aB S.R W) (bD ho rfl) ?_
 rw[ux h2,az]
 exact Rn.pure ⟨_,rfl,rfl,rfl⟩
theorem BW{k d p W:Nat}{S:KS}{M:Mo}(h:Kpr k d p W S M):Rn (Ar [.ref k]) M fun r M'=>r=aB S.R W∧M'=M:=by
 obtain⟨c,ho⟩:=h.obj
 unfold Ar mR iH;dsimp only
 refine Rn.call rfl ?_
 have st:aU 1 [.ref k]=[some (.ref k)]:=rfl
 rw[st]
 simp only[aO,aF,aq]
 refine Rn.bindRd (aB S.R W) (bD ho rfl) ?_
 exact Rn.pure ⟨_,rfl,rfl,rfl⟩
theorem qI{M:Mo}{k:Nat}{vs:List D}(e:M[k]?=some (.ins "Keeper" cJ vs)):qH "Keeper" k M=true:=by unfold qH;rw[e];rfl
theorem JB{k d p W:Nat}{S:KS}{M:Mo}(h:Kpr k d p W S M)(h2:S.R.length≤25):Rn (zL "Keeper" kj [.ref k]) M fun r M'=>r=nD S.R.length∧M'=M:=by
 obtain⟨c,ho⟩:=h.obj
 have e:zL "Keeper" kj [.ref k] M=(kj [.ref k]>>=lU) M:=by
  show dm _ _ M=_
  unfold dm
  rw[if_pos (qI ho)]
 have r:Rn (kj [.ref k]>>=lU) M fun r M'=>r=nD S.R.length∧M'=M:=by
  refine Rn.bind (BV h h2) fun r M' hr=>?_
  obtain⟨rfl,rfl⟩:=hr
  have q:(0:Int)≤(S.R.length:Int)∧(S.R.length:Int)<2^63:=⟨by omega,by omega⟩
  unfold lU nD
  dsimp only
  rw[if_pos q]
  exact Rn.pure ⟨rfl,rfl⟩
 obtain⟨a,M',e1,e2⟩:=r
 exact⟨a,M',e.trans e1,e2⟩
theorem uf {β:Type}{ft:ao->DM Bool}{fe:ao->DM D}{rest:ao} (c1 c2:β->D) (p:β->Bool) (e:β->D):∀ (bs:List β) (y z:Option D) (l:List D),l.length + bs.length≤1000000->
  (∀b∈bs,ft (some (c1 b)::some (c2 b)::rest)=pure (p b))->(∀b∈bs,p b=true->fe (some (c1 b)::some (c2 b)::rest)=pure (e b))->
  ∃δ',bN (gT 2 (b7 (gN 0) (b7 (gN 1) gf))) ft (cT fe) (bs.map fun b=>.tup [c1 b,c2 b]) (y::z::rest) l=pure (δ',l++(bs.filter p).map e)
 |[],y,z,l,_,_,_=>⟨_,by simp[bN];rfl⟩
 | b::bs,y,z,l,hl,h1,h2=>by
   have c:=h1 b (by simp)
   have hl':l.length+(bs.length+1)≤1000000:=by simpa using hl
   have lt:l.length<sizeLine:=by show l.length<2^24;omega
   cases hp:p b with
   |true=>
     have d:=h2 b (by simp) hp
     obtain⟨δ',q⟩:=uf (rest:=rest) c1 c2 p e bs (some (c1 b)) (some (c2 b)) (l++[e b]) (by simp;omega) (fun b hb=>h1 b (by simp[hb])) (fun b hb=>h2 b (by simp[hb]))
     exact⟨δ',by simp[bN,cT,c,d,lt,q,hp]⟩
   |false=>
     obtain⟨δ',q⟩:=uf (rest:=rest) c1 c2 p e bs (some (c1 b)) (some (c2 b)) l (by omega) (fun b hb=>h1 b (by simp[hb])) (fun b hb=>h2 b (by simp[hb]))
     exact⟨δ',by simp[bN,c,q,hp]⟩
noncomputable def yw:=aK 2 8 (pY vM)
theorem MP(l:List Nat):vB [nT l]=some (.fix ((List.range l.length).map fun j=>.tup [nD j,nD (ga l j)])):=by
 show some (Itn.fix (jP 0 (l.map nD)))=_
 congr 2
 apply List.ext_getElem?
 intro i
 rw[pD]
 by_cases h:i<l.length
 ·rw[List.getElem?_map,List.getElem?_eq_getElem h,List.getElem?_map,List.getElem?_range h,Nat.zero_add]
  simp[jC h,nD]
 ·rw[List.getElem?_eq_none (by simp;omega),List.getElem?_eq_none (by simp;omega)];rfl
theorem Iw {p:Nat}{R:Ro}{W:Nat}{M:Mo} (hp:eN p M) (wk:WK R W) (hW:W≤12):Rn (yw [.ref p,nM R]) M fun r M'=>∃ q:Dd,r=q.D∧q.ok R.length∧eN p M'∧Sb p M M':=by
 have n1:=wk.n1
 have n25:=wk.n25
 unfold yw pY jT;dsimp only
 refine Rn.call rfl ?_
 have st:aU 8 [.ref p,nM R]=[some (.ref p),some (nM R),none,none,none,none,none,none]:=rfl
 rw[st]
 refine aG fun K hK=>?_
 simp only[aO,Gj,aF,aq,lC]
 refine Rn.bind (cO (m:=12) hp (by decide) (by decide)) fun d1 M1 hd=>?_
 obtain⟨w,hw,rfl,hp1,s1⟩:=hd
 simp only[cA,az]
 rw[hK];clear hK K
 refine dU fun K hK hR=>?_
 have e6:(rd (sU (nD w) (.int 6)):DM D)=pure (.bl (decide (w<6))):=lD w 6
 simp only[aO,aF,aq,e6,aX]
 by_cases c:w<6
 ·simp only [c,decide_true,if_true]
  refine Rn.bind (Q1:=fun r M'=>∃q:Dd,r=.rt q.D∧q.ok R.length∧eN p M'∧Sb p M M') ?_ fun r M' hr=>?_
  rotate_left
  ·obtain⟨q,rfl,hq⟩:=hr
   rw[hR]
   exact Rn.pure ⟨_,rfl,q,rfl,hq⟩
  clear hK hR K
  refine aG fun K hK=>?_
  simp only[aO,aF,aq]
  refine Rn.bind (cO (m:=R.length) hp1 (by omega) (by omega)) fun d2 M2 hd=>?_
  obtain⟨x,hx,rfl,hp2,s2⟩:=hd
  rw[hK];clear hK K
  have rl:=wk.row _ (gr_mem hx)
  refine aG fun K hK=>?_
  simp only[cA,aO,aF,aq,gW hx,MP]
  have gtz:∀j:Nat,(rd (u9 (nD j) (.int 0)):DM D)=pure (.bl (decide (0<j))):=fun j=>tM j 0
  obtain⟨y',cp⟩:=uf (ft:=fun δ=>opt δ[1]?.join>>=fun a=>rd (u9 a (.int 0))>>=jw) (fe:=qG 0) (rest:=[]) (fun j:Nat=>nD j) (fun j=>nD (ga (gr R x) j)) (fun j=>decide (0<ga (gr R x) j)) (fun j=>nD j) (List.range (gr R x).length) none none [] (by simp;omega) (fun b hb=>by simp[gtz]) (fun b hb _=>by simp)
  have cpe:bY 2 [] [some (.ref p),some (nM R),some (nD w),some (nD R.length),some (nD x),none,none,none]=[none,none]:=rfl
  simp only[lA,List.length_cons,List.length_nil,cpe]
  rw[cp]
  have sne:((List.range (gr R x).length).filter fun j=>decide (0<ga (gr R x) j))≠[]:=fun z=>by
   have s0:(gr R x).sum=0:=by
    rw[←MF]
    refine wj fun j hj=>?_
    have:=List.filter_eq_nil_iff.mp z j (List.mem_range.mpr hj)
    simpa using this
   have:=wk.sum _ (gr_mem hx)
   have:=wk.w1
   omega
  have slt:∀j∈(List.range (gr R x).length).filter fun j=>decide (0<ga (gr R x) j),j<R.length:=fun j hj=>by
   have:=List.mem_range.mp (List.mem_filter.mp hj).1
   omega
  have sl:((List.range (gr R x).length).filter fun j=>decide (0<ga (gr R x) j)).length≤25:=by
   have:=List.length_filter_le (fun j=>decide (0<ga (gr R x) j)) (List.range (gr R x).length)
   rw[List.length_range] at this;omega
  rw[show ([]:List D)++(((List.range (gr R x).length).filter fun j=>decide (0<ga (gr R x) j)).map fun j=>nD j)=((List.range (gr R x).length).filter fun j=>decide (0<ga (gr R x) j)).map nD from rfl]
  clear cp
  revert sne slt sl
  generalize ((List.range (gr R x).length).filter fun j=>decide (0<ga (gr R x) j))=so
  intro sne slt sl
  rw[show (dY (pure (y',so.map nD)):DM (ao×List D))=pure (y',so.map nD) from rfl,az]
  simp only[xN,az]
  rw[hK];clear hK K
  refine aG fun K hK=>?_
  have ln:(rd (cW [.lst (so.map nD)]):DM D)=pure (nD so.length):=by simp[nD]
  simp only[cA,aO,aF,aq]
  refine Rn.bind (cO (m:=6) hp2 (by decide) (by decide)) fun d3 M3 hd=>?_
  obtain⟨u,hu,rfl,hp3,s3⟩:=hd
  have gu:(rd (u9 (nD u) (.int 0)):DM D)=pure (.bl (decide (0<u))):=tM u 0
  simp only[gu,az,aX]
  refine Rn.bind (Q1:=fun r M'=>∃y:Nat,y<R.length∧r=nD y∧eN p M'∧Sb p M3 M') ?_ fun r M4 hr=>?_
  ·by_cases cu:0<u
   ·simp only[cu,decide_true,if_true,ln,az]
    refine Rn.bind (cO (m:=so.length) hp3 (List.length_pos_iff.mpr sne) (by omega)) fun d4 M4 hd=>?_
    obtain⟨v,hv,rfl,hp4,s4⟩:=hd
    rw[xK hv]
    exact Rn.pure ⟨_,slt _ (sH hv),rfl,hp4,s4⟩
   ·simp only[cu,decide_false,Bool.false_eq_true,if_false]
    refine (cO (m:=R.length) hp3 (by omega) (by omega)).mono fun r M4 hr=>?_
    obtain⟨v,hv,rfl,hp4,s4⟩:=hr
    exact⟨v,hv,rfl,hp4,s4⟩
  obtain⟨y,hy,rfl,hp4,s4⟩:=hr
  rw[hK];clear hK K
  have yl:y<(gr R x).length:=by omega
  have mx:∃v:Nat,1≤v∧v≤W+1∧(rd (vD [.int 1,nD (ga (gr R x) y)]):DM D)=pure (nD v):=by
   have le:=wk.at_le (gr_mem hx) y
   unfold nD
   rw[Kc]
   by_cases h:(1:Int)<(ga (gr R x) y:Int)
   ·exact⟨ga (gr R x) y,by omega,by omega,by rw[if_pos h]⟩
   ·exact⟨1,by omega,by omega,by rw[if_neg h];rfl⟩
  obtain⟨v,v1,v2,ev⟩:=mx
  refine aG fun K hK=>?_
  simp only[cA,aO,aF,aq,gW hx,pM yl,ev]
  refine Rn.bind (cO (m:=v) hp4 (by omega) (by omega)) fun d5 M5 hd=>?_
  obtain⟨a,ha,rfl,hp5,s5⟩:=hd
  rw[Cu,az]
  refine Rn.bind (cO (m:=8) hp5 (by decide) (by decide)) fun d6 M6 hd=>?_
  obtain⟨b,hb,rfl,hp6,s6⟩:=hd
  have eb:(rd (cg (nD b) (.int 0)):DM D)=pure (.bl (decide (b=0))):=dM b 0
  rw[eb,az,wR,az]
  have aN:∀a b:Nat,(rd (cL (nD a) (nD b)):DM D)=pure (nD (a+b)):=fun a b=>iw a b
  rw[aN,az,hK];clear hK K
  simp only[cA,aO,aF,aq]
  refine Rn.bind (cO (m:=R.length) hp6 (by omega) (by omega)) fun d7 M7 hd=>?_
  obtain⟨z,hz,rfl,hp7,s7⟩:=hd
  rw[dg (by simp),az]
  exact Rn.pure ⟨.mv x y z _,rfl,⟨hx,hy,hz,by omega⟩,hp7,s1.trans (s2.trans (s3.trans (s4.trans (s5.trans (s6.trans s7)))))⟩
 ·simp only [c,decide_false,Bool.false_eq_true,if_false,az]
  rw[hK];clear hK hR K
  have ml:(m6 [.str "mark",.str "back",.str "undo",.str "mark",.str "back",.str "undo"]:DM D)=pure (.lst [.str "mark",.str "back",.str "undo",.str "mark",.str "back",.str "undo"]):=je (by simp)
  have sb:(rd (oX (nD w) (.int 6)):DM D)=pure (nD (w-6)):=tR (b:=6) (by omega)
  have mt:∀x:D,(eQ [x]:DM D)=pure (.tup [x]):=fun x=>dg (by simp)
  simp only[aO,aF,aq,ml,sb]
  have fin:∀(i:Nat) (q:Dd),w-6=i->q.ok R.length->([.str "mark",.str "back",.str "undo",.str "mark",.str "back",.str "undo"]:List D)[i]?=some (.str (match q with | .mv ..=>"move" | .mark=>"mark" | .back=>"back" | .undo=>"undo"))->(∀x y z m,q≠.mv x y z m)->
    Rn ((rd (bV (.lst [.str "mark",.str "back",.str "undo",.str "mark",.str "back",.str "undo"]) (nD (w-6))):DM D)>>=fun a=>eQ [a]>>=fun a=>pure (Fl.rt a)) M1 fun r M'=>∃d,r=Fl.rt d∧∃q:Dd,d=q.D∧q.ok R.length∧eN p M'∧Sb p M M':=fun i q hi hq he hn=>by
   have e:(rd (bV (.lst [.str "mark",.str "back",.str "undo",.str "mark",.str "back",.str "undo"]) (nD i)):DM D)=pure _:=Gg (i:=i) he
   rw[hi,e,az,mt,az]
   refine Rn.pure ⟨_,rfl,q,?_,hq,hp1,s1⟩
   cases q with
   |mv x y z m=>exact absurd rfl (hn x y z m)
   |mark=>rfl
   |back=>rfl
   |undo=>rfl
  have w6:w-6<6:=by omega
  rcases Nat.lt_or_ge (w-6) 1 with h | h
  ·exact fin 0 .mark (by omega) True.intro rfl (by simp)
  rcases Nat.lt_or_ge (w-6) 2 with h2 | h2
  ·exact fin 1 .back (by omega) True.intro rfl (by simp)
  rcases Nat.lt_or_ge (w-6) 3 with h3 | h3
  ·exact fin 2 .undo (by omega) True.intro rfl (by simp)
  rcases Nat.lt_or_ge (w-6) 4 with h4 | h4
  ·exact fin 3 .mark (by omega) True.intro rfl (by simp)
  rcases Nat.lt_or_ge (w-6) 5 with h5 | h5
  ·exact fin 4 .back (by omega) True.intro rfl (by simp)
  ·exact fin 5 .undo (by omega) True.intro rfl (by simp)
noncomputable def pq(q:Ro×List Ro):D:=.tup [nM q.1,.tup (q.2.map nM)]
def gF(S:KS):List (Ro×List Ro):=S.ds++[(S.R,S.ms)]
noncomputable def cz(S:KS):D:=.lst ((gF S).map pq)
def Dd.w:Dd->Str
 |.mv _ _ _ _=>"move"
 |.mark=>"mark"
 |.back=>"back"
 |.undo=>"undo"
def Dd.r:Dd->Str
 |.mv _ _ _ _=>"move"
 |.mark=>"mark"
 |.back=>"mark"
 |.undo=>"deed"
theorem q0(q:Dd):(rd (bV q.D (.int 0)):DM D)=pure (.str q.w):=by cases q<;>rfl
theorem Du(l:List D)(x:D):(rd (bV (.lst (l++[x])) (.int (-1))):DM D)=pure x:=bJ fun M=>by
 show atI (l++[x]) (-1)=some x
 unfold atI
 have:ixN (l++[x]).length (-1)=some l.length:=by
  unfold ixN
  rw[if_neg (by omega),if_pos (by simp;omega)]
  congr 1
  simp;omega
 rw[this];simp
theorem qQ(S:KS):(rd (bV (cz S) (.int (-1))):DM D)=pure (pq (S.R,S.ms)):=by
 unfold cz gF
 rw[List.map_append]
 exact Du _ _
theorem G9 {k:Nat} (hk:k≤50) {l:List D} (h:∀ d∈l,Nm k d):(rd (iu (.tup l) (.tup [])):DM D)=pure (.bl (!decide (l=[]))):=bJ fun M=>by
 obtain⟨ps,b1,b2,b3,b4⟩:=sW h
 show (eqP _ _).map _=_
 unfold eqP
 simp only[toPy,b1,cV,Option.map_some]
 rw[if_pos (by simp[PyData.canLay0,b2,PyData.depth,PyData.canLayAll0];omega)]
 cases l with
 |nil=>cases b1;rfl
 | cons d l=>
   cases ps with
   |nil=>
     obtain⟨q,e,_⟩:=h d (.head _)
     simp only[cV,e] at b1
     split at b1<;>cases b1
   |cons _ _=>simp[PyData.eqv,PyData.eqvAll]
theorem pJ(S:KS):(gF S).length=S.ds.length+1:=by simp[gF]
noncomputable def Al:=aK 2 9 rH
theorem IW {n W:Nat}{S:KS}{q:Dd} (o:KOk n W S) (hq:q.ok n) (hl:S.ds.length<1000) (hm:S.ms.length<1000) (M:Mo) :
  Rn (Al [cz S,q.D]) M fun r M'=>Gw M M'∧((∃S',Stp S q S'∧r=cz S')∨(Ref S q∧r=.tup [.str q.r])):=by
 obtain⟨⟨wk,rn⟩,oms,ods⟩:=o
 unfold Al rH my;dsimp only
 refine Rn.call rfl ?_
 have st:aU 9 [cz S,q.D]=[some (cz S),some q.D,none,none,none,none,none,none,none]:=rfl
 rw[st]
 have ng:(rd (qO (.int 1)):DM D)=pure (.int (-1)):=rfl
 have ai:(uT (.int (-1)):DM (Option Int))=pure (some (-1)):=rfl
 have mt:∀x:D,(eQ [x]:DM D)=pure (.tup [x]):=fun x=>dg (by simp)
 have mt2:∀x y:D,(eQ [x,y]:DM D)=pure (.tup [x,y]):=fun x y=>dg (by simp)
 have ml:∀x:D,(m6 [x]:DM D)=pure (.lst [x]):=fun x=>je (by simp)
 have pl:∀a:Ro×List Ro,(rd (cL (cz S) (.lst [pq a])):DM D)=pure (.lst ((gF S++[a]).map pq)):=fun a=>by
  unfold cz
  rw[Ho (by rw[List.length_map,pJ];simp;omega),List.map_append];rfl
 have tg:gT 2 (b7 (gN 2) (b7 (gN 3) gf)) (pq (S.R,S.ms)) [some (cz S),some q.D,none,none,none,none,none,none,none]=pure [some (cz S),some q.D,some (nM S.R),some (.tup (S.ms.map nM)),none,none,none,none,none]:=by unfold pq;simp[gT,b7,gf]
 refine aG fun K hK=>?_
 simp only[aO,aF,aq,ng,qQ,tg]
 rw[hK];clear hK K tg
 refine dU fun K hK hR=>?_
 simp only[aO,aF,aq,q0,dX,aX]
 cases q with
 | undo=>
   simp only[Dd.w,decide_true,if_true]
   clear hK
   have ln:(rd (cW [cz S]):DM D)=pure (nD (S.ds.length+1)):=bJ fun M=>by
    show (some (D.int _))=_
    rw[List.length_map,pJ];rfl
   have gt:(rd (u9 (nD (S.ds.length+1)) (.int 1)):DM D)=pure (.bl (decide (1<S.ds.length+1))):=tM _ 1
   simp only[ln,gt,az,aX]
   obtain⟨R,ms,ds⟩:=S
   rcases List.eq_nil_or_concat ds with rfl | ⟨a,b,rfl⟩
   ·simp only[List.length_nil,Nat.zero_add,show decide (1<1)=false from by decide,Bool.false_eq_true,if_false,mt,az]
    rw[hR]
    exact Rn.pure ⟨_,rfl,⟨Nat.le_refl _,fun _ _=>rfl⟩,.inr ⟨.undo,rfl⟩⟩
   ·rw[List.concat_eq_append]
    obtain⟨R',ms'⟩:=b
    have sl:(rd (oV none (some (-1)) (cz ⟨R,ms,a++[(R',ms')]⟩)):DM D)=pure (cz ⟨R',ms',a⟩):=bJ fun M=>by
     unfold cz gF
     dsimp only
     rw[List.map_append]
     show some (D.lst (cutD _ none (some (-1))))=_
     rw[List.map_cons,List.map_nil,qw]
    rw[List.concat_eq_append] at *
    simp only[show decide (1<(a++[(R',ms')]).length+1)=true from decide_eq_true (by simp),if_true,ng,ai,sl,az,aq]
    rw[hR]
    exact Rn.pure ⟨_,rfl,⟨Nat.le_refl _,fun _ _=>rfl⟩,.inl ⟨_,.undo,rfl⟩⟩
 |mark=>
   simp only[show decide (Dd.mark.w = "undo")=false from by decide,Bool.false_eq_true,if_false,az]
   rw[hK];clear hK hR K
   refine dU fun K hK hR=>?_
   simp only[aO,aF,aq,q0,dX,aX,Dd.w,decide_true,if_true,mt,mt2,ml]
   rw[lB _ _ (by rw[List.length_map];simp;omega),az]
   rw[show D.tup [nM S.R,D.tup (S.ms.map nM++[nM S.R])]=pq (S.R,S.ms++[S.R]) by unfold pq;rw[List.map_append];rfl,pl,az,hR]
   exact Rn.pure ⟨_,rfl,⟨Nat.le_refl _,fun _ _=>rfl⟩,.inl ⟨⟨S.R,S.ms++[S.R],S.ds++[(S.R,S.ms)]⟩,.mark,rfl⟩⟩
 | back=>
   simp only[show decide (Dd.back.w = "undo")=false from by decide,Bool.false_eq_true,if_false,az]
   rw[hK];clear hK hR K
   refine aG fun K hK=>?_
   simp only[aO,aF,aq,q0,dX,aX,show decide (Dd.back.w = "mark")=false from by decide,Bool.false_eq_true,if_false]
   rw[hK];clear hK K
   refine dU fun K hK hR=>?_
   have mt0:(eQ []:DM D)=pure (.tup []):=dg (by simp)
   have nn:(rd (iu (.tup (S.ms.map nM)) (.tup [])):DM D)=pure (.bl (!decide (S.ms.map nM=[]))):=G9 (k:=2) (by omega) fun d hd=>by obtain⟨R,_,rfl⟩:=List.mem_map.mp hd;exact zR (k:=0) R
   simp only[aO,aF,aq,q0,dX,aX,Dd.w,decide_true,if_true,mt0,nn]
   clear hK
   obtain⟨R,ms,ds⟩:=S
   rcases List.eq_nil_or_concat ms with rfl | ⟨a,b,rfl⟩
   ·simp only[List.map_nil,decide_true,Bool.not_true,Bool.false_eq_true,if_false,mt,az]
    rw[hR]
    exact Rn.pure ⟨_,rfl,⟨Nat.le_refl _,fun _ _=>rfl⟩,.inr ⟨.back,rfl⟩⟩
   ·simp only[List.concat_eq_append] at *
    have sl:(rd (oV none (some (-1)) (.tup ((a++[b]).map nM))):DM D)=pure (.tup (a.map nM)):=bJ fun M=>by
     rw[List.map_append]
     show some (D.tup (cutD _ none (some (-1))))=_
     rw[List.map_cons,List.map_nil,qw]
    have la:(rd (bV (.tup ((a++[b]).map nM)) (.int (-1))):DM D)=pure (nM b):=by
     rw[List.map_append];exact yE _ _
    simp only[show (!decide ((a++[b]).map nM=[]))=true by simp,if_true,ng,ai,sl,la,az,aq,mt2,ml]
    rw[show D.tup [nM b,D.tup (a.map nM)]=pq (b,a) from rfl,pl,az,hR]
    exact Rn.pure ⟨_,rfl,⟨Nat.le_refl _,fun _ _=>rfl⟩,.inl ⟨⟨b,a,ds++[(R,a++[b])]⟩,.back,rfl⟩⟩
 | mv x y z m=>
   obtain⟨hx,hy,hz,h1⟩:=hq
   have n25:=wk.n25
   have rl:=wk.row _ (gr_mem (R:=S.R) (i:=x) (by omega))
   simp only[show decide ((Dd.mv x y z m).w = "undo")=false from decide_eq_false (show ¬ ("move":Str) = "undo" by decide),Bool.false_eq_true,if_false,az]
   rw[hK];clear hK hR K
   refine aG fun K hK=>?_
   simp only[aO,aF,aq,q0,dX,aX,show decide ((Dd.mv x y z m).w = "mark")=false from decide_eq_false (show ¬ ("move":Str) = "mark" by decide),Bool.false_eq_true,if_false]
   rw[hK];clear hK K
   refine aG fun K hK=>?_
   simp only[aO,aF,aq,q0,dX,aX,show decide ((Dd.mv x y z m).w = "back")=false from decide_eq_false (show ¬ ("move":Str) = "back" by decide),Bool.false_eq_true,if_false]
   rw[hK];clear hK K
   refine aG fun K hK=>?_
   have sl:(rd (oV (some 1) none (Dd.mv x y z m).D):DM D)=pure (.tup [nD x,nD y,nD z,nD m]):=rfl
   have a1':(uT (.int 1):DM (Option Int))=pure (some 1):=rfl
   have tg:gT 4 (b7 (gN 4) (b7 (gN 5) (b7 (gN 6) (b7 (gN 7) gf)))) (.tup [nD x,nD y,nD z,nD m]) [some (cz S),some (Dd.mv x y z m).D,some (nM S.R),some (.tup (S.ms.map nM)),none,none,none,none,none]=pure [some (cz S),some (Dd.mv x y z m).D,some (nM S.R),some (.tup (S.ms.map nM)),some (nD x),some (nD y),some (nD z),some (nD m),none]:=by simp[gT,b7,gf]
   simp only[aO,aF,aq,a1',sl,tg]
   rw[hK];clear hK K
   refine dU fun K hK hR=>?_
   have e1:(rd (cg (nD y) (nD z)):DM D)=pure (.bl (decide (y=z))):=dM y z
   have e2:(rd (sU (nD (ga (gr S.R x) y)) (nD m)):DM D)=pure (.bl (decide (ga (gr S.R x) y<m))):=lD _ _
   simp only[aO,aF,aq,e1,aX]
   have hx':x<S.R.length:=by omega
   by_cases h1:y=z
   ·subst h1
    simp only[decide_true,if_true,mt,az,aX]
    rw[hR]
    exact Rn.pure ⟨_,rfl,⟨Nat.le_refl _,fun _ _=>rfl⟩,.inr ⟨.mv (.inl rfl),rfl⟩⟩
   by_cases h2:ga (gr S.R x) y<m
   ·simp only[decide_eq_false h1,Bool.false_eq_true,if_false,gW hx',pM (show y<(gr S.R x).length by omega),e2,decide_eq_true h2,if_true,mt,az,aq,aX]
    rw[hR]
    exact Rn.pure ⟨_,rfl,⟨Nat.le_refl _,fun _ _=>rfl⟩,.inr ⟨.mv (.inr h2),rfl⟩⟩
   simp only[decide_eq_false h1,Bool.false_eq_true,if_false,gW hx',pM (show y<(gr S.R x).length by omega),e2,decide_eq_false h2,az,aq,aX,Bool.false_eq_true,if_false]
   rw[hK];clear hK hR K
   replace h2:m≤ga (gr S.R x) y:=by omega
   refine aG fun K hK=>?_
   simp only[aO,aF,aq,gW hx']
   refine Rn.bindRd ((gr S.R x).map nD) rfl ?_
   refine Rn.dD (by simp;omega) ?_
   rw[hK];clear hK K
   have r0:(M++[DO.lst ((gr S.R x).map nD)])[M.length]?=some (.lst ((gr S.R x).map nD)):=by simp
   have yl:y<(gr S.R x).length:=by omega
   have zl:z<((gr S.R x).set y (ga (gr S.R x) y-m)).length:=by rw[List.length_set];omega
   refine aG fun K hK=>?_
   simp only[cA,aO,aF,aq]
   refine Rn.bindRd (nD (ga (gr S.R x) y)) (pB (i:=y) r0 (by rw[List.getElem?_map,List.getElem?_eq_getElem yl,jC yl];rfl)) ?_
   rw[show (rd (oX (nD (ga (gr S.R x) y)) (nD m)):DM D)=pure (nD (ga (gr S.R x) y-m)) from tR h2,az]
   refine Rn.run (gP r0 (by rw[List.length_map];exact yl)) ?_
   rw[hK,←List.map_set];clear hK K
   have r1:((M++[DO.lst ((gr S.R x).map nD)]).set M.length (.lst (((gr S.R x).set y (ga (gr S.R x) y-m)).map nD)))[M.length]?=some (.lst (((gr S.R x).set y (ga (gr S.R x) y-m)).map nD)):=List.getElem?_set_self (by simp)
   refine aG fun K hK=>?_
   simp only[cA,aO,aF,aq]
   refine Rn.bindRd (nD (ga ((gr S.R x).set y (ga (gr S.R x) y-m)) z)) (pB (i:=z) r1 (by rw[List.getElem?_map,List.getElem?_eq_getElem zl,jC zl];rfl)) ?_
   rw[iw,az]
   refine Rn.run (gP r1 (by rw[List.length_map];exact zl)) ?_
   rw[hK,←List.map_set];clear hK K
   have r2:(((M++[DO.lst ((gr S.R x).map nD)]).set M.length (.lst (((gr S.R x).set y (ga (gr S.R x) y-m)).map nD))).set M.length (.lst ((gD (gr S.R x) y z m).map nD)))[M.length]?=some (.lst ((gD (gr S.R x) y z m).map nD)):=List.getElem?_set_self (by simp)
   have g2:Gw M (((M++[DO.lst ((gr S.R x).map nD)]).set M.length (.lst (((gr S.R x).set y (ga (gr S.R x) y-m)).map nD))).set M.length (.lst ((gD (gr S.R x) y z m).map nD))):=⟨by simp,fun q hq=>by
    rw[List.getElem?_set_ne (by omega),List.getElem?_set_ne (by omega),List.getElem?_append_left hq]⟩
   show Rn _ (((M++[DO.lst ((gr S.R x).map nD)]).set M.length (.lst (((gr S.R x).set y (ga (gr S.R x) y-m)).map nD))).set M.length (.lst ((gD (gr S.R x) y z m).map nD))) _
   revert r2 g2
   generalize ((M++[DO.lst ((gr S.R x).map nD)]).set M.length (.lst (((gr S.R x).set y (ga (gr S.R x) y-m)).map nD))).set M.length (.lst ((gD (gr S.R x) y z m).map nD))=M2
   intro r2 g2
   have s1:(rd (oV none (some (x:Int)) (nM S.R)):DM D)=pure (.tup ((S.R.take x).map nT)):=bJ fun M=>by
    show some (D.tup (cutD (S.R.map nT) none (some (x:Int))))=_
    have e:cutD (S.R.map nT) none (some (x:Int))=(S.R.take x).map nT:=by
     unfold cutD
     rw[HT.sIx_none,HT.sIx_nat,List.drop_zero,Nat.sub_zero,List.length_map,Nat.min_eq_left (by omega),List.map_take]
    rw[e]
   have s2:(rd (oV (some ((x+1:Nat):Int)) none (nM S.R)):DM D)=pure (.tup ((S.R.drop (x+1)).map nT)):=bJ fun M=>by
    show some (D.tup (cutD (S.R.map nT) (some ((x+1:Nat):Int)) none))=_
    have e:cutD (S.R.map nT) (some ((x+1:Nat):Int)) none=(S.R.drop (x+1)).map nT:=by
     unfold cutD
     rw[HT.sIx_none,HT.sIx_nat,List.length_map,Nat.min_eq_left (by omega),List.map_drop]
     exact List.take_of_length_le (by simp)
    rw[e]
   have tp:lK [.ref M.length] M2=some (nT (gD (gr S.R x) y z m)):=by
    show (gZ (.ref M.length) M2).map D.tup=_
    simp only[gZ,bh,r2];rfl
   have ax:(uT (nD x):DM (Option Int))=pure (some (x:Int)):=rfl
   have a1:(rd (cL (nD x) (.int 1)):DM D)=pure (nD (x+1)):=pL x
   have ax1:(uT (nD (x+1)):DM (Option Int))=pure (some ((x+1:Nat):Int)):=rfl
   simp only[aO,aF,aq,ax,s1]
   refine Rn.bindRd _ tp ?_
   simp only[mt,az,a1,ax1,s2]
   have tl:(S.R.take x).length≤25:=by rw[List.length_take];omega
   have dl:(S.R.drop (x+1)).length≤25:=by rw[List.length_drop];omega
   rw[lB _ _ (by simp;omega),az,lB _ _ (by simp;omega),az]
   have em:D.tup ((S.R.take x).map nT++[nT (gD (gr S.R x) y z m)]++(S.R.drop (x+1)).map nT)=nM (jF S.R x y z m):=by
    rw[Gm]
    congr 1
    unfold jF
    rw[List.set_eq_take_append_cons_drop,if_pos hx']
    simp
   rw[em,mt2,az,ml,az]
   rw[show D.tup [nM (jF S.R x y z m),D.tup (S.ms.map nM)]=pq (jF S.R x y z m,S.ms) from rfl,pl]
   exact Rn.pure ⟨_,rfl,g2,.inl ⟨⟨jF S.R x y z m,S.ms,S.ds++[(S.R,S.ms)]⟩,.mv h1 h2,rfl⟩⟩
theorem lH{f g:ao->DM Fl}{δ δ':ao}(h:f δ=pure (.nx δ')):kh f g δ=g δ':=by unfold kh;rw[h];rfl
noncomputable def wJ:Str->D:=fun c=>.tup [.str (if c = "NoMove" then "move" else if c = "NoMark" then "mark" else "deed")]
theorem GR(y:Addr):cH y "NoMove" (aU 4 [.exn y])=pure (.rt (.tup [.str "move"])):=by
 have st:aU 4 [.exn y]=[some (.exn y),none,none,none]:=rfl
 rw[st]
 have ex:sy (.exn y)=some y:=rfl
 have hi:∀k:D,(rd (jn lL y "NoMove" [.exn y,k]):DM D)=rd (jn lL 0 "NoMove" [.exn 0,k]):=fun k=>by
  funext M;simp only[rd,jn,sy,if_true]
 have m4:eQ [.ty "LookupError",.ty "TypeError",.ty "ArithmeticError",.ty "RuntimeError"]=pure (.tup [.ty "LookupError",.ty "TypeError",.ty "ArithmeticError",.ty "RuntimeError"]):=by funext M;rfl
 have ms:∀(m:List D) (w z:Option D) (f g:ao->DM Fl) (m':List D),f [some (.exn y),some (.lst m),w,z]=pure (.nx [some (.exn y),some (.lst m'),w,z])->kh f g [some (.exn y),some (.lst m),w,z]=g [some (.exn y),some (.lst m'),w,z]:=fun _ _ _ _ _ _ h=>lH h
 let F:List D:=List.replicate 4 (.bl false)
 let A:List D:=[.bl false,.bl false,.bl true,.bl false]
 let B:List D:=[.bl false,.bl false,.bl false,.bl false]
 unfold cH dJ;dsimp only
 refine (lH (δ':=[some (.exn y),some (.lst F),none,none]) ?_).trans ((ms _ _ _ _ _ (F++F) ?_).trans ((ms _ _ _ _ _ (F++F++F) ?_).trans ((ms _ _ _ _ _ (F++F++F++A) ?_).trans ((ms _ _ _ _ _ (F++F++F++A++B) ?_).trans ((ms _ _ _ _ _ (F++F++F++A++B) ?_).trans ?_)))))
 all_goals simp only[cA,aO,aF,aq,hi,m4]
 all_goals first | (funext M;rfl) | skip
theorem GQ(y:Addr):cH y "NoMark" (aU 4 [.exn y])=pure (.rt (.tup [.str "mark"])):=by
 have st:aU 4 [.exn y]=[some (.exn y),none,none,none]:=rfl
 rw[st]
 have ex:sy (.exn y)=some y:=rfl
 have hi:∀k:D,(rd (jn lL y "NoMark" [.exn y,k]):DM D)=rd (jn lL 0 "NoMark" [.exn 0,k]):=fun k=>by
  funext M;simp only[rd,jn,sy,if_true]
 have m4:eQ [.ty "LookupError",.ty "TypeError",.ty "ArithmeticError",.ty "RuntimeError"]=pure (.tup [.ty "LookupError",.ty "TypeError",.ty "ArithmeticError",.ty "RuntimeError"]):=by funext M;rfl
 have ms:∀(m:List D) (w z:Option D) (f g:ao->DM Fl) (m':List D),f [some (.exn y),some (.lst m),w,z]=pure (.nx [some (.exn y),some (.lst m'),w,z])->kh f g [some (.exn y),some (.lst m),w,z]=g [some (.exn y),some (.lst m'),w,z]:=fun _ _ _ _ _ _ h=>lH h
 let F:List D:=List.replicate 4 (.bl false)
 let A:List D:=[.bl false,.bl false,.bl false,.bl true]
 let B:List D:=[.bl false,.bl false,.bl false,.bl false]
 unfold cH dJ;dsimp only
 refine (lH (δ':=[some (.exn y),some (.lst F),none,none]) ?_).trans ((ms _ _ _ _ _ (F++F) ?_).trans ((ms _ _ _ _ _ (F++F++F) ?_).trans ((ms _ _ _ _ _ (F++F++F++A) ?_).trans ((ms _ _ _ _ _ (F++F++F++A++B) ?_).trans ((ms _ _ _ _ _ (F++F++F++A++B) ?_).trans ?_)))))
 all_goals simp only[cA,aO,aF,aq,hi,m4]
 all_goals first | (funext M;rfl) | skip
theorem GK(y:Addr):cH y "NoDeed" (aU 4 [.exn y])=pure (.rt (.tup [.str "deed"])):=by
 have st:aU 4 [.exn y]=[some (.exn y),none,none,none]:=rfl
 rw[st]
 have ex:sy (.exn y)=some y:=rfl
 have hi:∀k:D,(rd (jn lL y "NoDeed" [.exn y,k]):DM D)=rd (jn lL 0 "NoDeed" [.exn 0,k]):=fun k=>by
  funext M;simp only[rd,jn,sy,if_true]
 have m4:eQ [.ty "LookupError",.ty "TypeError",.ty "ArithmeticError",.ty "RuntimeError"]=pure (.tup [.ty "LookupError",.ty "TypeError",.ty "ArithmeticError",.ty "RuntimeError"]):=by funext M;rfl
 have ms:∀(m:List D) (w z:Option D) (f g:ao->DM Fl) (m':List D),f [some (.exn y),some (.lst m),w,z]=pure (.nx [some (.exn y),some (.lst m'),w,z])->kh f g [some (.exn y),some (.lst m),w,z]=g [some (.exn y),some (.lst m'),w,z]:=fun _ _ _ _ _ _ h=>lH h
 let F:List D:=List.replicate 4 (.bl false)
 let A:List D:=[.bl false,.bl false,.bl false,.bl false]
 let B:List D:=[.bl true,.bl false,.bl false,.bl false]
 unfold cH dJ;dsimp only
 refine (lH (δ':=[some (.exn y),some (.lst F),none,none]) ?_).trans ((ms _ _ _ _ _ (F++F) ?_).trans ((ms _ _ _ _ _ (F++F++F) ?_).trans ((ms _ _ _ _ _ (F++F++F++A) ?_).trans ((ms _ _ _ _ _ (F++F++F++A++B) ?_).trans ((ms _ _ _ _ _ (F++F++F++A++B) ?_).trans ?_)))))
 all_goals simp only[cA,aO,aF,aq,hi,m4]
 all_goals first | (funext M;rfl) | skip
theorem K7(y:Addr)(c:Str)(hc:c∈jM):cH y c (aU 4 [.exn y])=pure (.rt (wJ c)):=by
 have h:c = "NoMove"∨c = "NoMark"∨c = "NoDeed":=by simpa[jM] using hc
 rcases h with rfl | rfl | rfl
 ·exact GR y
 ·exact GQ y
 ·exact GK y
noncomputable def vZ:=vz 2 (jO wJ)
theorem Ku{th:DM D}{M M':Mo}{c:Str}(hc:c∈jM)(h:Xn th M c M'):Rn (vZ th) M fun d M''=>d=wJ c∧M''=M':=by
 refine⟨_,M',?_,rfl,rfl⟩
 have hb:∀f:D->DM D,(th>>=f) M=some (.exc c,M'):=fun f=>by
  show DM.bind th f M=_
  unfold DM.bind;rw[h]
 have hb2:∀(f:D->DM D) (g:D->DM Fl),((th>>=f)>>=g) M=some (.exc c,M'):=fun f g=>by
  show DM.bind (th>>=f) g M=_
  unfold DM.bind;rw[hb f]
 unfold vZ vz jO gU;dsimp only
 have hT:∀(fb:ao->DM Fl) (fh:Str->ao->DM Fl) (δ:ao),fb δ M=some (.exc c,M')->oY jM 2 1 fb fh δ M=(dY (fh c ((List.replicate 2 none).set 1 (some (.exn 0))))>>=Ew 1) M':=fun fb fh δ h=>by
  unfold oY;rw[h];simp[hc]
 show DM.bind (oY _ _ _ _ _ _) _ M=_
 unfold DM.bind
 rw[hT _ _ _ (hb2 _ _)]
 rfl
theorem HB{th:DM D}{M:Mo}{P:D->Mo->Prop}(h:Rn th M P):Rn (vZ th) M fun d M'=>∃d0,d=.tup [.str "told",d0]∧P d0 M':=by
 obtain⟨d0,M',e,p⟩:=h
 refine⟨_,M',?_,d0,rfl,p⟩
 have hb2:∀(f:D->DM D) (g:D->DM Fl) (r:R Fl×Mo),(f d0>>=g) M'=some r->((th>>=f)>>=g) M=some r:=fun f g r h=>by
  show DM.bind (DM.bind th f) g M=_
  unfold DM.bind;rw[e];exact h
 unfold vZ vz jO gU;dsimp only
 have hT:∀(fb:ao->DM Fl) (fh:Str->ao->DM Fl) (δ:ao) (r:Fl),fb δ M=some (.ok r,M')->oY jM 2 1 fb fh δ M=some (.ok r,M'):=fun fb fh δ r h=>by
  unfold oY;rw[h]
 show DM.bind (oY _ _ _ _ _ _) _ M=_
 unfold DM.bind
 rw[hT _ _ _ (.rt (.tup [.str "told",d0])) (hb2 _ _ _ rfl)]
 rfl
noncomputable def yx:=aK 3 5 (p8 Al vL vZ)
theorem xj{k:Nat}{s:Str}(h:PyData.strOk s=true):Nm k (.str s):=⟨.str s,rfl,by simp only[PyData.canLay0];exact h,Nat.zero_le _,by simp[PyData.eqv]⟩
theorem JQ{k:Nat}:Nm k .non:=⟨.none,rfl,rfl,Nat.zero_le _,by simp[PyData.eqv]⟩
theorem Lf{k:Nat}(b:Bool):Nm k (.bl b):=⟨.bool b,rfl,rfl,Nat.zero_le _,by simp[PyData.eqv]⟩
theorem wI{k:Nat}{l:List D}(hk:k≤50)(h:Nm k (.tup l)):(rd (cg (.tup l) (.tup l)):DM D)=pure (.bl true):=bJ fun M=>by
 obtain⟨p,a1,a2,a3,a4⟩:=h
 show (eqP _ _).map _=_
 unfold eqP
 simp only[a1]
 rw[if_pos (by simp[a2];omega),a4];rfl
theorem wH{k:Nat}{l:List D}(hk:k≤50)(h:Nm k (.lst l)):(rd (cg (.lst l) (.lst l)):DM D)=pure (.bl true):=bJ fun M=>by
 obtain⟨p,a1,a2,a3,a4⟩:=h
 show (eqP _ _).map _=_
 unfold eqP
 simp only[a1]
 rw[if_pos (by simp[a2];omega),a4];rfl
theorem Kg(q:Dd)(S:KS)(h:Ref S q):(rd (cg (wJ q.c) (.tup [.str q.r])):DM D)=pure (.bl true):=by
 have e:wJ q.c=.tup [.str q.r]:=by cases h<;>rfl
 rw[e]
 exact wI (k:=1) (by omega) (lg fun d hd=>by rw[List.mem_singleton.mp hd];exact xj (by cases h<;>(simp only[Dd.r];decide +kernel)))
theorem Ky {k d p n W:Nat}{S:KS}{q:Dd}{M:Mo} (h:Kpr k d p W S M) (o:KOk n W S) (hW:W<2 ^ 60) (hl:S.ds.length<900) (hm:S.ms.length<900) (hq:q.ok n) :
  Rn (yx [.ref k,cz S,q.D]) M fun r M'=>∃S' p',(Stp S q S'∨(Ref S q∧S'=S))∧r=cz S'∧Kpr k d p' W S' M'∧Op k d p M p' M':=by
 unfold yx p8 jW;dsimp only
 refine Rn.call rfl ?_
 have st:aU 5 [.ref k,cz S,q.D]=[some (.ref k),some (cz S),some q.D,none,none]:=rfl
 rw[st]
 refine aG fun K hK=>?_
 simp only[aO,aF,aq]
 refine Rn.bind (IW o hq (by omega) (by omega) M) fun r M1 hr=>?_
 obtain⟨g,hr⟩:=hr
 rw[hK];clear hK K
 have h1:=h.gw g
 have mt2:∀x y:D,(eQ [x,y]:DM D)=pure (.tup [x,y]):=fun x y=>dg (by simp)
 rcases hr with ⟨S',hs,rfl⟩ | ⟨hs,rfl⟩
 ·refine aG fun K hK=>?_
  simp only[cA,aO,aF,aq]
  refine Rn.bind (HB (IV h1 o hW (by omega) (by omega) hq hs)) fun r M2 hr=>?_
  obtain⟨d0,rfl,rfl,p',hk,oo⟩:=hr
  rw[hK];clear hK K
  refine aG fun K hK=>?_
  have ii:(rd (gh [cz S',.ty "tuple"]):DM D)=pure (.bl false):=rfl
  simp only[cA,aO,aF,aq,ii,jt,Bool.false_eq_true,if_false]
  rw[hK];clear hK K
  have ee:(rd (cg (.tup [.str "told",.non]) (.tup [.str "told",.non])):DM D)=pure (.bl true):=wI (k:=1) (by omega) (lg fun d hd=>by
   rcases List.mem_cons.mp hd with rfl | hd
   ·exact xj (by decide +kernel)
   ·rw[List.mem_singleton.mp hd];exact JQ)
  simp only[cA,aO,aF,aq,mt2,ee,aX,if_true]
  exact Rn.pure ⟨_,rfl,S',p',.inl hs,rfl,hk,g.op.trans oo⟩
 ·refine aG fun K hK=>?_
  simp only[cA,aO,aF,aq]
  refine Rn.bind (Ku (by cases hs<;>simp[Dd.c,jM]) (K5 h1 o hq hs)) fun r M2 hr=>?_
  obtain⟨rfl,rfl⟩:=hr
  rw[hK];clear hK K
  refine dU fun K hK hR=>?_
  have ii:(rd (gh [.tup [.str q.r],.ty "tuple"]):DM D)=pure (.bl true):=rfl
  simp only[cA,aO,aF,aq,ii,jt,if_true,Kg q S hs,aX]
  rw[hR]
  exact Rn.pure ⟨_,rfl,S,p,.inr ⟨hs,rfl⟩,rfl,h1,g.op⟩
theorem cD(a b:Str):(a++b).length=a.length+b.length:=by show (a.cps++b.cps).size=_;simp[Str.length]
theorem pO{a b:Str}(h1:PyData.strOk a=true)(h2:PyData.strOk b=true):PyData.strOk (a++b)=true:=by
 unfold PyData.strOk at *
 show (a.cps++b.cps).all _=true
 rw[Array.all_append,h1,h2];rfl
def tS(n:Nat):Str:=Str.ofString (toString ((n:Nat):Int))
theorem pP:∀n<100,PyData.strOk (tS n)=true∧(tS n).length≠0∧(tS n).length≤5:=by decide +kernel
def qb(n m:Nat):Str:=((((Str.empty++"Keeper(")++tS n)++" places, ")++tS m)++" deeds)"
theorem cl1:(Str.ofString "Keeper(").length=7:=by decide +kernel
theorem cl2:(Str.ofString " places, ").length=9:=by decide +kernel
theorem Il:(Str.ofString " deeds)").length=7:=by decide +kernel
theorem Bo:(Str.empty).length=0:=by decide +kernel
theorem Jx{n m:Nat}(hn:n<100)(hm:m<100):PyData.strOk (qb n m)=true:=by
 unfold qb
 exact pO (pO (pO (pO (by decide +kernel) (pP n hn).1) (by decide +kernel)) (pP m hm).1) (by decide +kernel)
theorem Mw{n:Nat}(hn:n<100):((n:Int)).natAbs.log2<1920:=by
 show n.log2<1920
 by_cases h:n=0
 ·subst h;decide
 ·exact (Nat.log2_lt h).mpr (Nat.lt_of_lt_of_le hn (Nat.le_trans (show 100≤2^7 by decide) (Nat.pow_le_pow_right (by decide) (by decide))))
theorem Gf{n:Nat}(hn:n<100):(rd (zJ (nD n)):DM D)=pure (.str (tS n)):=bJ fun M=>by
 unfold zJ nD
 dsimp only
 rw[if_pos (Mw hn)];rfl
theorem CN{n:Nat}(hn:n<100):(rd (Ae [nD n]):DM D)=pure (.str (tS n)):=bJ fun M=>by
 unfold Ae nD
 dsimp only
 rw[if_pos (Mw hn)];rfl
theorem tL{a b:Str}(h1:a.length≠0)(h2:b.length≠0)(h3:a.length+b.length≤10000):(rd (zj (.str a) (.str b)):DM D)=pure (.str (a++b)):=bJ fun M=>by
 unfold zj
 dsimp only
 rw[if_pos ⟨h1,h2,by rw[cD];show _≤2^24;omega⟩]
theorem Rn.join{f:ao->DM D}{fs:List (ao->DM D)}{δ:ao}{acc a:Str}{M:Mo}{Q:D->Mo->Prop}(h:Rn (f δ) M fun r M'=>r=.str a∧M'=M)(hl:acc.length+a.length≤10000)(k:Rn (jD fs δ (acc++a)) M Q):Rn (jD (f::fs) δ acc) M Q:=by
 show Rn (f δ>>=fun x=>opt (strOf x)>>=fun a=>if (acc++a).length≤sizeLine then jD fs δ (acc++a) else stuck) M Q
 refine Rn.bind h fun r M' hr=>?_
 obtain⟨rfl,rfl⟩:=hr
 rw[show (opt (strOf (.str a)):DM Str)=pure a from rfl,az,if_pos (by rw[cD];show _≤2^24;omega)]
 exact k
noncomputable def rG:=aK 1 1 (iV mO)
theorem Jw {k d p W:Nat}{S:KS}{M:Mo} (h:Kpr k d p W S M) (h2:S.R.length≤25) (h3:S.ds.length<100):Rn (rG [.ref k]) M fun r M'=>r=.str (qb S.R.length S.ds.length)∧M'=M:=by
 obtain⟨c,ho⟩:=h.obj
 unfold rG iV d8;dsimp only
 refine Rn.call rfl ?_
 have st:aU 1 [.ref k]=[some (.ref k)]:=rfl
 rw[st]
 have a1:=pP S.R.length (by omega)
 have a2:=pP S.ds.length (by omega)
 have ld:cW [.ref d] M=some (nD S.ds.length):=by
  have:=h.dd
  simp[cW,bh,this,nD]
 refine Rn.bind (Q1:=fun r M'=>r=.str (qb S.R.length S.ds.length)∧M'=M) ?_ fun r M' hr=>?_
 ·refine Rn.join (a := "Keeper(") (Rn.pure ⟨rfl,rfl⟩) (by rw[Bo,cl1];omega) ?_
  refine Rn.join (a:=tS S.R.length) ?_ (by rw[cD,Bo,cl1];omega) ?_
  ·simp only[aO,aF,aq]
   refine Rn.bindRd (aB S.R W) (bD ho rfl) ?_
   rw[ux h2,az,Gf (by omega)]
   exact Rn.pure ⟨rfl,rfl⟩
  refine Rn.join (a := " places, ") (Rn.pure ⟨rfl,rfl⟩) (by rw[cD,cD,Bo,cl1,cl2];omega) ?_
  refine Rn.join (a:=tS S.ds.length) ?_ (by rw[cD,cD,cD,Bo,cl1,cl2];omega) ?_
  ·simp only[aO,aF,aq]
   refine Rn.bindRd (.ref d) (bD ho rfl) ?_
   refine Rn.bindRd (nD S.ds.length) ld ?_
   rw[Gf (by omega)]
   exact Rn.pure ⟨rfl,rfl⟩
  refine Rn.join (a := " deeds)") (Rn.pure ⟨rfl,rfl⟩) (by rw[cD,cD,cD,cD,Bo,cl1,cl2,Il];omega) ?_
  exact Rn.pure ⟨rfl,rfl⟩
 ·obtain⟨rfl,rfl⟩:=hr
  exact Rn.pure ⟨_,rfl,rfl,rfl⟩
theorem Kq{k d p W:Nat}{S:KS}{M:Mo}(h:Kpr k d p W S M)(h2:S.R.length≤25)(h3:S.ds.length<100):Rn (vG "Keeper" rG [.ref k]) M fun r M'=>r=.str (qb S.R.length S.ds.length)∧M'=M:=by
 obtain⟨c,ho⟩:=h.obj
 have e:vG "Keeper" rG [.ref k] M=(rG [.ref k]>>=wB) M:=by
  show dm _ _ M=_
  unfold dm
  rw[if_pos (qI ho)]
 have r:Rn (rG [.ref k]>>=wB) M fun r M'=>r=.str (qb S.R.length S.ds.length)∧M'=M:=by
  refine Rn.bind (Jw h h2 h3) fun r M' hr=>?_
  obtain⟨rfl,rfl⟩:=hr
  exact Rn.pure ⟨rfl,rfl⟩
 obtain⟨a,M',e1,e2⟩:=r
 exact⟨a,M',e.trans e1,e2⟩
theorem Ii{k d p W:Nat}{S:KS}{M:Mo}(h:Kpr k d p W S M)(h2:S.R.length≤25)(h3:1≤S.R.length):Rn (vy "Keeper" kj [.ref k]) M fun r M'=>r=.bl true∧M'=M:=by
 obtain⟨c,ho⟩:=h.obj
 have e:vy "Keeper" kj [.ref k] M=(kj [.ref k]>>=xV) M:=by
  show dm _ _ M=_
  unfold dm
  rw[if_pos (qI ho)]
 have r:Rn (kj [.ref k]>>=xV) M fun r M'=>r=.bl true∧M'=M:=by
  refine Rn.bind (BV h h2) fun r M' hr=>?_
  obtain⟨rfl,rfl⟩:=hr
  have q:(0:Int)≤(S.R.length:Int)∧(S.R.length:Int)<2^63:=⟨by omega,by omega⟩
  unfold xV nD
  dsimp only
  rw[if_pos q]
  exact Rn.pure ⟨by rw[show ((S.R.length:Int) != 0)=true from bne_iff_ne.mpr (by omega)],rfl⟩
 obtain⟨a,M',e1,e2⟩:=r
 exact⟨a,M',e.trans e1,e2⟩
theorem Ht{R:List (List Nat)}(h:∀l∈R,∀n∈l,n<2^1000)(hl:∀l∈R,l.length≤30)(hR:R.length≤30):∃s:Str,(rd (pN [nM R]):DM D)=pure (.str s):=by
 have d:=qz R
 have b:=Bc hl
 have:(1923*30+100)*R.length≤(1923*30+100)*30:=Nat.mul_le_mul_left _ hR
 refine⟨(PyData.tuple (R.map fun l=>PyData.tuple (l.map fun n:Nat=>PyData.int (n:Int)))).shown,?_⟩
 refine bJ fun M=>?_
 have h0:zU (nM R)=some (PyData.tuple (R.map fun l=>PyData.tuple (l.map fun n:Nat=>PyData.int (n:Int)))):=by
  unfold zU
  have:toPy (nM R)=some (PyData.tuple (R.map fun l=>PyData.tuple (l.map fun n:Nat=>PyData.int (n:Int)))):=by unfold nM;simp[toPy,rm]
  rw[this]
 have s1:(PyData.tuple (R.map fun l=>PyData.tuple (l.map fun n:Nat=>PyData.int (n:Int)))).showable=true:=by simp only[PyData.showable];exact HD h
 have s2:(PyData.tuple (R.map fun l=>PyData.tuple (l.map fun n:Nat=>PyData.int (n:Int)))).depth≤60:=by simp only[PyData.depth];omega
 have s3:dG (PyData.tuple (R.map fun l=>PyData.tuple (l.map fun n:Nat=>PyData.int (n:Int))))≤sizeLine:=by simp only[dG];show _≤2^24;omega
 simp only[pN,h0,Option.bind_some,s1,s2,s3,decide_true,Bool.and_self,if_true]
theorem Jz {l:List Nat}{n:Nat} (h:n∈l):n≤l.sum:=by
 induction l with
 |nil=>cases h
 |cons a l ih=>
   rw[List.sum_cons]
   rcases List.mem_cons.mp h with rfl | h
   ·omega
   ·have:=ih h;omega
theorem HX{R:Ro}{W:Nat}(wk:WK R W)(hW:W<2^60):∃s:Str,(rd (pN [nM R]):DM D)=pure (.str s):=by
 have n25:=wk.n25
 refine Ht (fun l hl n hn=>?_) (fun l hl=>by rw[wk.row l hl];omega) (by omega)
 have a:=Jz hn
 have b:=wk.sum l hl
 exact Nat.lt_of_lt_of_le (show n<2^60 by omega) (Nat.pow_le_pow_right (by decide) (by decide))
noncomputable def tZ:=aK 2 5 (mW nF Ar vN rG kj)
theorem eqQ{n m:Nat}(hn:n<100)(hm:m<100):(rd (cg (.lst [nD n,.bl true,.str (qb n m)]) (.lst [nD n,.bl true,.str (qb n m)])):DM D)=pure (.bl true):=wH (k:=1) (by omega) (Ck fun d hd=>by
 rcases List.mem_cons.mp hd with rfl | hd
 ·exact Cj _
 rcases List.mem_cons.mp hd with rfl | hd
 ·exact Lf _
 ·rw[List.mem_singleton.mp hd];exact xj (Jx hn hm))
theorem Kw{k d p n W:Nat}{S:KS}{M:Mo}(h:Kpr k d p W S M)(o:KOk n W S)(hW:W<2^60)(hl:S.ds.length<90) :
  Rn (tZ [.ref k,cz S]) M fun r M'=>r=.bl true∧M'=M:=by
 obtain⟨⟨wk,rn⟩,oms,ods⟩:=o
 have n25:=wk.n25
 have n1:=wk.n1
 obtain⟨c,ho⟩:=h.obj
 unfold tZ mW iJ;dsimp only
 refine Rn.call rfl ?_
 have st:aU 5 [.ref k,cz S]=[some (.ref k),some (cz S),none,none,none]:=rfl
 rw[st]
 have ng:(rd (qO (.int 1)):DM D)=pure (.int (-1)):=rfl
 have i0:(rd (bV (pq (S.R,S.ms)) (.int 0)):DM D)=pure (nM S.R):=rfl
 refine aG fun K hK=>?_
 simp only[aO,aF,aq,ng,qQ,i0]
 rw[hK];clear hK K
 have ln:(rd (cW [nM S.R]):DM D)=pure (nD S.R.length):=bJ fun M=>by
  show (some (D.int _))=_
  rw[List.length_map];rfl
 have lp:(rd (cW [cz S]):DM D)=pure (nD (S.ds.length+1)):=bJ fun M=>by
  show (some (D.int _))=_
  rw[List.length_map,pJ];rfl
 have sb:(rd (oX (nD (S.ds.length+1)) (.int 1)):DM D)=pure (nD S.ds.length):=tR (b:=1) (by omega)
 have a1:=pP S.R.length (by omega)
 have a2:=pP S.ds.length (by omega)
 refine aG fun K hK=>?_
 simp only[cA,aO,aF,aq,ln,lp,sb,CN (show S.R.length<100 by omega),CN (show S.ds.length<100 by omega)]
 rw[tL (by rw[cl1];decide) a1.2.1 (by rw[cl1];omega),az,tL (by rw[cD,cl1];omega) (by rw[cl2];decide) (by rw[cD,cl1,cl2];omega),az,tL (by rw[cD,cD,cl1];omega) a2.2.1 (by rw[cD,cD,cl1,cl2];omega),az,tL (by rw[cD,cD,cD,cl1];omega) (by rw[Il];decide) (by rw[cD,cD,cD,cl1,cl2,Il];omega),az]
 rw[show ((((Str.ofString "Keeper(")++tS S.R.length)++Str.ofString " places, ")++tS S.ds.length)++Str.ofString " deeds)"=qb S.R.length S.ds.length by unfold qb;rw[Str.empty_append]]
 rw[hK];clear hK K
 refine aG fun K hK=>?_
 simp only[cA,aO,aF,aq]
 refine Rn.bindRd () (cj ho (by decide)) ?_
 refine Rn.bind (BW h) fun r M' hr=>?_
 obtain⟨rfl,rfl⟩:=hr
 rw[hK];clear hK K
 obtain⟨s,es⟩:=HX wk hW
 have ix0:(rd (bV (nM S.R) (.int 0)):DM D)=pure (nT (gr S.R 0)):=gW (i:=0) (by omega)
 have sm:(rd (xT [nT (gr S.R 0)]):DM D)=pure (nD W):=by rw[Kl,wk.sum _ wk.head]
 have ne1:(rd (iu (.str s) (.str s)):DM D)=pure (.bl (!decide (s=s))):=rfl
 refine aG fun K hK=>?_
 simp only[cA,aO,aF,aq,BR,jt,Bool.not_true,Bool.false_eq_true,if_false,cI,Bx,es,ne1,ix0,sm,tQ,decide_true,aX]
 rw[hK];clear hK K
 simp only[cA,aO,aF,aq]
 refine Rn.bind (JB h n25) fun r M' hr=>?_
 obtain⟨rfl,rfl⟩:=hr
 refine Rn.bind (Ii h n25 n1) fun r M' hr=>?_
 obtain⟨rfl,rfl⟩:=hr
 refine Rn.bind (Kq h n25 (by omega)) fun r M' hr=>?_
 obtain⟨rfl,rfl⟩:=hr
 have ml3:∀x y z:D,(m6 [x,y,z]:DM D)=pure (.lst [x,y,z]):=fun x y z=>je (by simp)
 simp only[az,ml3,ln,eqQ (show S.R.length<100 by omega) (show S.ds.length<100 by omega),aX,if_true,aq]
 refine Rn.bindRd () (cj ho (by decide)) ?_
 refine Rn.bind (BW h) fun r M' hr=>?_
 obtain⟨rfl,rfl⟩:=hr
 rw[xX wk,az,Jc (by omega),decide_eq_true rfl]
 exact Rn.pure ⟨_,rfl,rfl,rfl⟩
structure Lw(pe k d n W:Nat)(S:KS)(M:Mo):Prop where
 pen:eN pe M
 kp:∃p,Kpr k d p W S M
 ok:KOk n W S
 ord:pe<k∧W≤12
variable{pe k d n W:Nat}{S:KS}{M M':Mo}
theorem Lw.on(h:Lw pe k d n W S M)(hp:eN pe M')(s:Sb pe M M'):Lw pe k d n W S M':=by
 obtain⟨p,kp⟩:=h.kp
 have:=h.ord
 have:=kp.kd
 have:=kp.dp
 exact⟨hp,⟨p,kp.on s (by omega) (by omega) (by omega)⟩,h.ok,h.ord⟩
theorem Lw.op(h:Lw pe k d n W S M){p p':Nat}(hk:Kpr k d p W S M){S':KS}(hk':Kpr k d p' W S' M')(o:Op k d p M p' M')(ok:KOk n W S'):Lw pe k d n W S' M':=by
 have:=h.ord
 have:=hk.kd
 have:=hk.dp
 refine⟨?_,⟨p',hk'⟩,ok,h.ord⟩
 obtain⟨a,b,c,hc,e⟩:=h.pen
 exact⟨a,b,c,hc,(o.keep pe h.pen.lt (by omega) (by omega) (by omega)).trans e⟩
theorem Lw.deed(h:Lw pe k d n W S M):Rn (yw [.ref pe,nM S.R]) M fun r M'=>∃q:Dd,r=q.D∧q.ok n∧Lw pe k d n W S M':=by
 have hW:=h.ord.2
 refine (Iw h.pen h.ok.R.1 hW).mono fun r M' hr=>?_
 obtain⟨q,e,hq,hp,s⟩:=hr
 exact⟨q,e,by rw[←h.ok.R.2];exact hq,h.on hp s⟩
theorem Lw.step(h:Lw pe k d n W S M){q:Dd}(hq:q.ok n)(hl:S.ds.length<80)(hm:S.ms.length<80):Rn (yx [.ref k,cz S,q.D]) M fun r M'=>∃S',(Stp S q S'∨(Ref S q∧S'=S))∧r=cz S'∧Lw pe k d n W S' M':=by
 obtain⟨p,kp⟩:=h.kp
 have hW:=h.ord.2
 refine (Ky kp h.ok (by omega) (by omega) (by omega) hq).mono fun r M' hr=>?_
 obtain⟨S',p',hs,e,hk,o⟩:=hr
 refine⟨S',hs,e,h.op kp hk o ?_⟩
 rcases hs with hs | ⟨_,rfl⟩
 ·exact hs.ok h.ok hq
 ·exact h.ok
theorem Lw.stands(h:Lw pe k d n W S M)(hl:S.ds.length<80):Rn (tZ [.ref k,cz S]) M fun r M'=>r=.bl true∧M'=M:=by
 obtain⟨p,kp⟩:=h.kp
 have hW:=h.ord.2
 exact Kw kp h.ok (by omega) (by omega)
structure Bd(b:Nat)(S:KS):Prop where
 ds:S.ds.length≤b
 ms:S.ms.length≤b
 all:∀q∈S.ds,q.2.length≤b
theorem Bd.step {b:Nat}{S S':KS}{q:Dd} (h:Bd b S) (hs:Stp S q S'):Bd (b + 1) S':=by
 obtain⟨h1,h2,h3⟩:=h
 have ap:∀(ds:List (Ro×List Ro)) (R:Ro) (ms:List Ro),(∀q∈ds,q.2.length≤b)->ms.length≤b->∀q∈ds++[(R,ms)],q.2.length≤b+1:=fun ds R ms h1 h2 q hq=>by
  rcases List.mem_append.mp hq with hq | hq
  ·exact Nat.le_succ_of_le (h1 q hq)
  ·rw[List.mem_singleton.mp hq];exact Nat.le_succ_of_le h2
 cases hs with
 |mv _ _=>exact⟨by simpa using h1,Nat.le_succ_of_le h2,ap _ _ _ h3 h2⟩
 |mark=>exact⟨by simpa using h1,by simpa using h2,ap _ _ _ h3 h2⟩
 |back=>exact⟨by simpa using h1,by simp at h2;dsimp only;omega,ap _ _ _ h3 h2⟩
 |undo=>
   have:=h3 _ (List.mem_append_right _ (List.mem_singleton.mpr rfl))
   exact⟨by simp at h1;dsimp only;omega,Nat.le_succ_of_le this,fun q hq=>Nat.le_succ_of_le (h3 q (List.mem_append_left _ hq))⟩
theorem Bd.up{b:Nat}(h:Bd b S):Bd (b+1) S:=⟨Nat.le_succ_of_le h.ds,Nat.le_succ_of_le h.ms,fun q hq=>Nat.le_succ_of_le (h.all q hq)⟩
theorem Bd.undo {b:Nat}{S S':KS} (h:Bd b S) (hs:Stp S .undo S'):Bd b S'∧S'.ds.length=S.ds.length - 1:=by
 obtain⟨h1,h2,h3⟩:=h
 cases hs with
 |undo=>
   have:=h3 _ (List.mem_append_right _ (List.mem_singleton.mpr rfl))
   exact⟨⟨by simp at h1;dsimp only;omega,this,fun q hq=>h3 q (List.mem_append_left _ hq)⟩,by simp⟩
theorem xR{S S':KS}{q:Dd}(hs:Stp S q S'):(gF S').head?=(gF S).head?:=by
 cases hs with
 |mv _ _=>rename_i R ms ds x y z m _ _;cases ds<;>simp[gF]
 |mark=>rename_i R ms ds;cases ds<;>simp[gF]
 |back=>rename_i R R' ms ds;cases ds<;>simp[gF]
 |undo=>rename_i R R' ms ms' ds;cases ds<;>simp[gF]
theorem JR(S:KS):Nm 5 (cz S):=Ck fun d hd=>by
 obtain⟨q,_,rfl⟩:=List.mem_map.mp hd
 unfold pq
 refine lg (k:=3) fun d hd=>?_
 rcases List.mem_cons.mp hd with rfl | hd
 ·exact zR (k:=1) _
 ·rw[List.mem_singleton.mp hd]
  refine lg (k:=2) fun d hd=>?_
  obtain⟨R,_,rfl⟩:=List.mem_map.mp hd
  exact zR (k:=0) _
theorem FZ(S:KS):(rd (cg (cz S) (cz S)):DM D)=pure (.bl true):=wH (by omega) (JR S)
theorem Cq(S:KS):(rd (isD (cz S) .non):DM D)=pure (.bl false):=rfl
noncomputable def Do:=aK 1 7 (Fx vK vV vY tZ yw nF Ah yx)
theorem G4 (cs:List Int) (hcs:cs.length≤100000):Rn (Do [.scr cs]) [] fun d _=>d=.bl true:=by
 unfold Do Fx zV;dsimp only
 refine Rn.call rfl ?_
 have st:aU 7 [D.scr cs]=[some (.scr cs),none,none,none,none,none,none]:=rfl
 rw[st]
 obtain⟨c0,ec⟩:=Ik cs 0
 have ec':vK [.scr cs,.int 0]=pure (.int c0):=ec
 have mt0:(eQ []:DM D)=pure (.tup []):=dg (by simp)
 have mt2:∀x y:D,(eQ [x,y]:DM D)=pure (.tup [x,y]):=fun x y=>dg (by simp)
 have l1:∀x:D,m6 [x]=pure (.lst [x]):=fun x=>je (by simp)
 have e30:qR [.int 30]=some (.fix ((List.range 30).map nD)):=eU (n:=30) (by omega)
 have ng:(rd (qO (.int 1)):DM D)=pure (.int (-1)):=rfl
 have i0:∀S:KS,(rd (bV (pq (S.R,S.ms)) (.int 0)):DM D)=pure (nM S.R):=fun _=>rfl
 refine aG fun K hK=>?_
 simp only[aO,aF,aq,ec']
 refine Rn.bind (Hl c0 []) fun d M0 ⟨e,hp⟩=>?_
 subst e
 revert hp;generalize ([]:Mo).length=pe;intro hp
 try simp only[cA,az]
 rw[hK];clear hK K
 refine aG fun K hK=>?_
 simp only[aO,aF,aq]
 refine Rn.bind (Hz (tp:=5) hp (by decide) (by decide)) fun d M1 ⟨R0,W,e,wk,h5,hW,hp1,_⟩=>?_
 subst e
 have n25:=wk.n25
 try simp only[cA,az]
 rw[hK];clear hK K
 refine aG fun K hK=>?_
 simp only[cA,aO,aF,aq,xX wk]
 rw[hK];clear hK K
 refine aG fun K hK=>?_
 simp only[cA,aO,Gj,aF,aq]
 refine Rn.bind (Jv wk (by omega) M1) fun d M2 ⟨e,hk,g⟩=>?_
 subst e
 simp only[cA,mt0,mt2,l1,az]
 have pa0:D.lst [D.tup [nM R0,D.tup []]]=cz ⟨R0,[],[]⟩:=rfl
 have pl1:=hp1.lt
 have ini:Lw pe M1.length (M1.length+1) R0.length W ⟨R0,[],[]⟩ M2:=by
  refine⟨?_,⟨_,hk⟩,⟨⟨wk,rfl⟩,fun R h=>by (cases h),fun q h=>by (cases h)⟩,pl1,hW⟩
  obtain⟨a,b,c,hc,e⟩:=hp1
  exact⟨a,b,c,hc,g.at e⟩
 rw[pa0,hK];clear hK K g hk pl1 hp1 hp
 have bd0:Bd 0 ⟨R0,[],[]⟩:=⟨Nat.le_refl _,Nat.le_refl _,fun q h=>by (cases h)⟩
 have hd0:(gF ⟨R0,[],[]⟩).head?=some (R0,[]):=rfl
 revert ini
 generalize M1.length=k
 intro ini
 have nM0:(rd (iu (nM R0) (nM R0)):DM D)=pure (.bl false):=by
  have:=Bu R0 R0 (by omega)
  rw[decide_eq_true rfl] at this
  exact this
 refine aG fun K hK=>?_
 simp only[aO,aF,aq]
 refine Rn.bind (ini.stands (by simp)) fun r M3 hr=>?_
 obtain⟨rfl,rfl⟩:=hr
 simp only[jt,Bool.not_true,Bool.false_eq_true,if_false,az]
 rw[hK];clear hK K
 -- thirty deeds
 refine aG fun K hK=>?_
 simp only[aO,aF,aq,e30,fF]
 refine Rn.bind (gJ (fun i δ M'=>∃S z6,δ=[some (.scr cs),some (.ref pe),some (nM R0),some (aB R0 W),some (.ref k),some (cz S),z6]∧Lw pe k (k+1) R0.length W S M'∧Bd i S∧(gF S).head?=some (R0,[])) _ 0 _ _ ⟨_,_,rfl,ini,bd0,hd0⟩ (fun i d δ M4 hi hI=>?_)) (fun rr M4 hI=>?_)
 ·clear hK K
  obtain⟨S,z6,rfl,lw,bd,hd⟩:=hI
  rw[Nat.zero_add] at *
  obtain⟨hi30,rfl⟩:=vH hi
  have b1:=bd.ds
  have b2:=bd.ms
  rw[zW,az]
  refine aG fun K hK=>?_
  simp only[cA,aO,aF,aq,ng,qQ,i0]
  refine Rn.bind lw.deed fun r M5 ⟨q,e,hq,lw5⟩=>?_
  subst e
  refine Rn.bind (lw5.step hq (by omega) (by omega)) fun r M6 ⟨S',hs,e,lw6⟩=>?_
  subst e
  rw[hK];clear hK K
  have bd':Bd (i+1) S':=by
   rcases hs with hs | ⟨_,rfl⟩
   ·exact bd.step hs
   ·exact bd.up
  have hd':(gF S').head?=some (R0,[]):=by
   rcases hs with hs | ⟨_,rfl⟩
   ·rw[xR hs,hd]
   ·exact hd
  have b3:=bd'.ds
  simp only[cA,aO,aF,aq,Cq,aX,Bool.false_eq_true,if_false]
  refine Rn.bind (lw6.stands (by omega)) fun r M7 hr=>?_
  obtain⟨rfl,rfl⟩:=hr
  simp only[jt,Bool.not_true,Bool.false_eq_true,if_false,az,cI,nM0,aX]
  exact Rn.pure ⟨_,rfl,_,_,rfl,lw6,bd',hd'⟩
 obtain⟨δ',rfl,S,z6,rfl,lw,bd,hd⟩:=hI
 rw[hK];clear hK K ini bd0 hd0
 rw[Nat.zero_add,List.length_map,List.length_range] at bd
 have b1:=bd.ds
 -- all undone
 have lp:(rd (cW [cz S]):DM D)=pure (nD (S.ds.length+1)):=bJ fun M=>by
  show (some (D.int _))=_
  rw[List.length_map,pJ];rfl
 have eL:qR [nD (S.ds.length+1)]=some (.fix ((List.range (S.ds.length+1)).map nD)):=eU (by omega)
 have mtu:(eQ [.str "undo"]:DM D)=pure Dd.undo.D:=dg (by simp)
 have mtb:(eQ [.str "back"]:DM D)=pure Dd.back.D:=dg (by simp)
 refine aG fun K hK=>?_
 simp only[aO,aF,aq,lp,eL,fF]
 refine Rn.bind (gJ (fun i δ M'=>∃S' z6,δ=[some (.scr cs),some (.ref pe),some (nM R0),some (aB R0 W),some (.ref k),some (cz S'),z6]∧Lw pe k (k+1) R0.length W S' M'∧Bd 30 S'∧(gF S').head?=some (R0,[])∧S'.ds.length=S.ds.length-i) _ 0 _ _ ⟨_,_,rfl,lw,bd,hd,rfl⟩ (fun i d δ M5 hi hI=>?_)) (fun rr M5 hI=>?_)
 ·clear hK K
  obtain⟨S1,z6,rfl,lw1,bd1,hd1,ln1⟩:=hI
  rw[Nat.zero_add] at *
  obtain⟨hi30,rfl⟩:=vH hi
  have b1:=bd1.ds
  have b2:=bd1.ms
  rw[zW,az]
  refine aG fun K hK=>?_
  simp only[cA,aO,aF,aq,mtu]
  refine Rn.bind (lw1.step (q:=.undo) True.intro (by omega) (by omega)) fun r M6 ⟨S',hs,e,lw6⟩=>?_
  subst e
  rw[hK];clear hK K
  have bd':Bd 30 S'∧S'.ds.length=S.ds.length-(i+1):=by
   rcases hs with hs | ⟨hr,rfl⟩
   ·obtain⟨a,b⟩:=bd1.undo hs
    exact⟨a,by omega⟩
   ·cases hr
    simp at ln1 ⊢
    exact⟨bd1,by omega⟩
  obtain⟨bd',ln'⟩:=bd'
  have hd':(gF S').head?=some (R0,[]):=by
   rcases hs with hs | ⟨_,rfl⟩
   ·rw[xR hs,hd1]
   ·exact hd1
  have b3:=bd'.ds
  simp only[cA,aO,aF,aq,Cq,aX,Bool.false_eq_true,if_false]
  refine Rn.bind (lw6.stands (by omega)) fun r M7 hr=>?_
  obtain⟨rfl,rfl⟩:=hr
  simp only[jt,Bool.not_true,Bool.false_eq_true,if_false,az,aX]
  exact Rn.pure ⟨_,rfl,_,_,rfl,lw6,bd',hd',ln'⟩
 obtain⟨δ',rfl,S1,z6,rfl,lw1,bd1,hd1,ln1⟩:=hI
 rw[hK];clear hK K
 rw[Nat.zero_add,List.length_map,List.length_range] at ln1
 have es:S1=⟨R0,[],[]⟩:=by
  obtain⟨R,ms,ds⟩:=S1
  have:ds=[]:=List.length_eq_zero_iff.mp (by dsimp only at ln1;omega)
  subst this
  simp[gF] at hd1
  rw[hd1.1,hd1.2]
 subst es
 simp only[cA,aO,aF,aq,mt0,mt2,l1,pa0,FZ,aX,if_true,mtb]
 refine Rn.bind (lw1.step (q:=.back) True.intro (by simp) (by simp)) fun r M6 ⟨S',hs,e,lw6⟩=>?_
 subst e
 have e':S'=⟨R0,[],[]⟩:=by
  rcases hs with hs | ⟨_,rfl⟩
  ·generalize hS:(⟨R0,[],[]⟩:KS)=S0 at hs
   cases hs with
   |back=>
     have:=congrArg KS.ms hS
     simp at this
  ·rfl
 subst e'
 rw[FZ]
 exact Rn.pure ⟨_,rfl,rfl⟩
def FW(K:PySem.W.Frag):Bool:=K.all fun p=>!(p.2.cls==.type "list")
theorem JS {K:PySem.W.Frag} (h:FW K=true) {a:Addr}{o:Obj} (e:K.lookup a=some o):o.cls≠.type "list":=by
 have:∀ (l:List (Addr×Obj)),(l.all fun p=>!(p.2.cls == .type "list"))=true->l.lookup a=some o->o.cls≠.type "list":=by
  intro l
  induction l with
  |nil=>intro _ e;cases e
  | cons p l ih=>
    intro h e
    rw[List.all_cons,Bool.and_eq_true] at h
    rw[List.lookup_cons] at e
    split at e
    ·cases e
     intro z
     rw[z] at h
     exact absurd h.1 (by decide)
    ·exact ih h.2 e
 exact this K h e
structure Cls(K:PySem.W.Frag)(mg:Str->Option Value)(CE_NoMove CE_NoMark CE_NoDeed CE0 CC_Keeper CC_Walk:Addr)(tg_MOST_PLACES tg_MOST_STEPS:Tok):Prop where
 t:XTab K mg jM CE0
 m_FadeError:mg "FadeError"=some (.ref CE0)
 fk:∀c∈jM,∀C,mg c=some (.ref C)->FlK K mg lL c C
 mL:∀x∈lL,∃C,mg x=some (.ref C)
 m_MOST_PLACES:mg "MOST_PLACES"=some (.int 25 tg_MOST_PLACES)
 m_MOST_STEPS:mg "MOST_STEPS"=some (.int 100 tg_MOST_STEPS)
 o_Keeper:OCls K mg "Keeper" CC_Keeper ["kept", "marks", "deeds", "powers", "made", "__bool__"]
 k_Keeper:PySem.W.makesIn K CC_Keeper=true∧PySem.W.keepIn K (.ref CC_Keeper)=true
 o_Walk:OCls K mg "Walk" CC_Walk ["rows", "whole"]
 k_Walk:PySem.W.makesIn K CC_Walk=true∧PySem.W.keepIn K (.ref CC_Walk)=true
 q_Walk:OwnC K mg "Walk"
 nl:FW K=true
theorem Im {K:PySem.W.Frag}{h:Heap}{mg:Str->Option Value} (X:K.In h) (G:h.Ns mainGlobals mg) {CE_NoMove CE_NoMark CE_NoDeed CE0 CC_Keeper CC_Walk:Addr}{tg_MOST_PLACES tg_MOST_STEPS:Tok}
  (cE0:PySem.W.nsIn K mainGlobals "FadeError"=some (some (.ref CE0)))
  (c_NoMove:PySem.W.nsIn K mainGlobals "NoMove"=some (some (.ref CE_NoMove)))
  (c_NoMark:PySem.W.nsIn K mainGlobals "NoMark"=some (some (.ref CE_NoMark)))
  (c_NoDeed:PySem.W.nsIn K mainGlobals "NoDeed"=some (some (.ref CE_NoDeed)))
  (eE0:PySem.W.excIn K CE0 oZ "ValueError.__new__"=true)
  (e_NoMove:PySem.W.excIn K CE_NoMove oZ "ValueError.__new__"=true)
  (s_NoMove:PySem.W.mroIn K CE_NoMove (.ref CE0)=some true)
  (x1_NoMove:PySem.W.findIn K (.ref CE_NoMove) "__getattribute__"=some (some (.builtin "BaseException.__getattribute__")))
  (x2_NoMove:PySem.W.findIn K (.ref CE_NoMove) "__getattr__"=some none)
  (x3_NoMove:PySem.W.findIn K (.ref CE_NoMove) "__class__"=some (some (.builtin "object.__class__")))
  (x4_NoMove:PySem.W.mroIn K CE_NoMove (.type "object")=some true)
  (x5_NoMove:PySem.W.mroIn K CE_NoMove (.type "BaseException")=some true)
  (e_NoMark:PySem.W.excIn K CE_NoMark oZ "ValueError.__new__"=true)
  (s_NoMark:PySem.W.mroIn K CE_NoMark (.ref CE0)=some true)
  (x1_NoMark:PySem.W.findIn K (.ref CE_NoMark) "__getattribute__"=some (some (.builtin "BaseException.__getattribute__")))
  (x2_NoMark:PySem.W.findIn K (.ref CE_NoMark) "__getattr__"=some none)
  (x3_NoMark:PySem.W.findIn K (.ref CE_NoMark) "__class__"=some (some (.builtin "object.__class__")))
  (x4_NoMark:PySem.W.mroIn K CE_NoMark (.type "object")=some true)
  (x5_NoMark:PySem.W.mroIn K CE_NoMark (.type "BaseException")=some true)
  (e_NoDeed:PySem.W.excIn K CE_NoDeed oZ "ValueError.__new__"=true)
  (s_NoDeed:PySem.W.mroIn K CE_NoDeed (.ref CE0)=some true)
  (x1_NoDeed:PySem.W.findIn K (.ref CE_NoDeed) "__getattribute__"=some (some (.builtin "BaseException.__getattribute__")))
  (x2_NoDeed:PySem.W.findIn K (.ref CE_NoDeed) "__getattr__"=some none)
  (x3_NoDeed:PySem.W.findIn K (.ref CE_NoDeed) "__class__"=some (some (.builtin "object.__class__")))
  (x4_NoDeed:PySem.W.mroIn K CE_NoDeed (.type "object")=some true)
  (x5_NoDeed:PySem.W.mroIn K CE_NoDeed (.type "BaseException")=some true)
  (v_NoMove_NoMove:PySem.W.kitOne K (.ref CE_NoMove) (.ref CE_NoMove)=some true)
  (v_NoMove_NoMark:PySem.W.kitOne K (.ref CE_NoMove) (.ref CE_NoMark)=some false)
  (v_NoMove_NoDeed:PySem.W.kitOne K (.ref CE_NoMove) (.ref CE_NoDeed)=some false)
  (v_NoMark_NoMove:PySem.W.kitOne K (.ref CE_NoMark) (.ref CE_NoMove)=some false)
  (v_NoMark_NoMark:PySem.W.kitOne K (.ref CE_NoMark) (.ref CE_NoMark)=some true)
  (v_NoMark_NoDeed:PySem.W.kitOne K (.ref CE_NoMark) (.ref CE_NoDeed)=some false)
  (v_NoDeed_NoMove:PySem.W.kitOne K (.ref CE_NoDeed) (.ref CE_NoMove)=some false)
  (v_NoDeed_NoMark:PySem.W.kitOne K (.ref CE_NoDeed) (.ref CE_NoMark)=some false)
  (v_NoDeed_NoDeed:PySem.W.kitOne K (.ref CE_NoDeed) (.ref CE_NoDeed)=some true)
  (fv_NoMove:PySem.W.kitOne K (.ref CE_NoMove) (.type "ValueError")=some true)
  (fo_NoMove:PySem.W.kitAny K (.ref CE_NoMove) (uz.map Value.type)=some false)
  (nk_NoMove:pW K CE_NoMove "NoMove" lL)
  (fv_NoMark:PySem.W.kitOne K (.ref CE_NoMark) (.type "ValueError")=some true)
  (fo_NoMark:PySem.W.kitAny K (.ref CE_NoMark) (uz.map Value.type)=some false)
  (nk_NoMark:pW K CE_NoMark "NoMark" lL)
  (fv_NoDeed:PySem.W.kitOne K (.ref CE_NoDeed) (.type "ValueError")=some true)
  (fo_NoDeed:PySem.W.kitAny K (.ref CE_NoDeed) (uz.map Value.type)=some false)
  (nk_NoDeed:pW K CE_NoDeed "NoDeed" lL)
  (g_MOST_PLACES:PySem.W.nsIn K mainGlobals "MOST_PLACES"=some (some (.int 25 tg_MOST_PLACES)))
  (g_MOST_STEPS:PySem.W.nsIn K mainGlobals "MOST_STEPS"=some (some (.int 100 tg_MOST_STEPS)))
  (cm_Keeper:PySem.W.nsIn K mainGlobals "Keeper"=some (some (.ref CC_Keeper)))
  (pg_Keeper:PySem.W.plainGet K CC_Keeper Str.empty=true)
  (hd_Keeper:PySem.W.hasDictIn K CC_Keeper=true)
  (po_Keeper:PySem.W.plainOver K CC_Keeper=true)
  (sa_Keeper:PySem.W.findIn K (.ref CC_Keeper) "__setattr__"=some (some (.builtin "object.__setattr__")))
  (mk_Keeper:PySem.W.makesIn K CC_Keeper=true)
  (kc_Keeper:PySem.W.keepIn K (.ref CC_Keeper)=true)
  (nf_Keeper_kept:PySem.W.findIn K (.ref CC_Keeper) "kept"=some none)
  (nf_Keeper_marks:PySem.W.findIn K (.ref CC_Keeper) "marks"=some none)
  (nf_Keeper_deeds:PySem.W.findIn K (.ref CC_Keeper) "deeds"=some none)
  (nf_Keeper_powers:PySem.W.findIn K (.ref CC_Keeper) "powers"=some none)
  (nf_Keeper_made:PySem.W.findIn K (.ref CC_Keeper) "made"=some none)
  (nf_Keeper___bool__:PySem.W.findIn K (.ref CC_Keeper) "__bool__"=some none)
  (cm_Walk:PySem.W.nsIn K mainGlobals "Walk"=some (some (.ref CC_Walk)))
  (pg_Walk:PySem.W.plainGet K CC_Walk Str.empty=true)
  (hd_Walk:PySem.W.hasDictIn K CC_Walk=true)
  (po_Walk:PySem.W.plainOver K CC_Walk=true)
  (sa_Walk:PySem.W.findIn K (.ref CC_Walk) "__setattr__"=some (some (.builtin "object.__setattr__")))
  (mk_Walk:PySem.W.makesIn K CC_Walk=true)
  (kc_Walk:PySem.W.keepIn K (.ref CC_Walk)=true)
  (qn_Walk:PySem.W.findIn K (.ref CC_Walk) "__ne__"=some (some (.builtin "object.__ne__")))
  (qm_Walk:PySem.W.mroIn K CC_Walk (.type "object")=some true)
  (qc_Walk:PySem.W.findIn K (.ref CC_Walk) "__class__"=some (some (.builtin "object.__class__")))
  (qg_Walk:PySem.W.specialIn K (.builtin "object.__class__") "__get__"=some (some (.builtin "getset_descriptor.__get__")))
  (qt_Walk:PySem.W.takesIn K (.builtin "object.__class__")=some true)
  (qi_Walk:((PySem.W.clsIn K CC_Walk).isSome&&PySem.W.typeIn K (.ref CC_Walk)==some (.type "type"))=true)
  (nf_Walk_rows:PySem.W.findIn K (.ref CC_Walk) "rows"=some none)
  (nf_Walk_whole:PySem.W.findIn K (.ref CC_Walk) "whole"=some none)
  (nl:FW K=true)
  : Cls K mg CE_NoMove CE_NoMark CE_NoDeed CE0 CC_Keeper CC_Walk tg_MOST_PLACES tg_MOST_STEPS:=by
 have m_NoMove:=PySem.W.mg_of X G c_NoMove
 have m_NoMark:=PySem.W.mg_of X G c_NoMark
 have m_NoDeed:=PySem.W.mg_of X G c_NoDeed
 have nof_Keeper:∀f∈(["kept", "marks", "deeds", "powers", "made", "__bool__"]:List Str),NoAttr K CC_Keeper f:=by
  intro f hf
  simp only[List.mem_cons,List.not_mem_nil,or_false] at hf
  rcases hf with rfl | rfl | rfl | rfl | rfl | rfl
  ·exact nf_Keeper_kept
  ·exact nf_Keeper_marks
  ·exact nf_Keeper_deeds
  ·exact nf_Keeper_powers
  ·exact nf_Keeper_made
  ·exact nf_Keeper___bool__
 have nof_Walk:∀f∈(["rows", "whole"]:List Str),NoAttr K CC_Walk f:=by
  intro f hf
  simp only[List.mem_cons,List.not_mem_nil,or_false] at hf
  rcases hf with rfl | rfl
  ·exact nf_Walk_rows
  ·exact nf_Walk_whole
 refine⟨⟨fun a ha=>?_,fun a ha b hb C D hC hD=>?_⟩,PySem.W.mg_of X G cE0,fun c hc C hC=>?_,fun x hx=>let ⟨d,e,_⟩:=nk_NoMove.at hx;⟨d,PySem.W.mg_of X G e⟩,PySem.W.mg_of X G g_MOST_PLACES,PySem.W.mg_of X G g_MOST_STEPS,⟨PySem.W.mg_of X G cm_Keeper,⟨pg_Keeper,hd_Keeper,po_Keeper,sa_Keeper⟩,nof_Keeper⟩,⟨mk_Keeper,kc_Keeper⟩,⟨PySem.W.mg_of X G cm_Walk,⟨pg_Walk,hd_Walk,po_Walk,sa_Walk⟩,nof_Walk⟩,⟨mk_Walk,kc_Walk⟩,⟨CC_Walk,PySem.W.mg_of X G cm_Walk,qn_Walk,qm_Walk,qc_Walk,qg_Walk,qt_Walk,qi_Walk,⟨pg_Walk,hd_Walk,po_Walk,sa_Walk⟩⟩,nl⟩
 ·simp only[List.mem_cons,List.not_mem_nil,or_false] at ha
  rcases ha with rfl | rfl | rfl
  ·exact⟨CE_NoMove,⟨m_NoMove,e_NoMove⟩,⟨x1_NoMove,x2_NoMove,x3_NoMove,x4_NoMove,x5_NoMove⟩,⟨e_NoMove,eE0,s_NoMove⟩⟩
  ·exact⟨CE_NoMark,⟨m_NoMark,e_NoMark⟩,⟨x1_NoMark,x2_NoMark,x3_NoMark,x4_NoMark,x5_NoMark⟩,⟨e_NoMark,eE0,s_NoMark⟩⟩
  ·exact⟨CE_NoDeed,⟨m_NoDeed,e_NoDeed⟩,⟨x1_NoDeed,x2_NoDeed,x3_NoDeed,x4_NoDeed,x5_NoDeed⟩,⟨e_NoDeed,eE0,s_NoDeed⟩⟩
 ·simp only[List.mem_cons,List.not_mem_nil,or_false] at ha hb
  rcases ha with rfl | rfl | rfl<;>rcases hb with rfl | rfl | rfl
  ·rw[m_NoMove] at hC;rw[m_NoMove] at hD;cases hC;cases hD;exact v_NoMove_NoMove
  ·rw[m_NoMove] at hC;rw[m_NoMark] at hD;cases hC;cases hD;exact v_NoMove_NoMark
  ·rw[m_NoMove] at hC;rw[m_NoDeed] at hD;cases hC;cases hD;exact v_NoMove_NoDeed
  ·rw[m_NoMark] at hC;rw[m_NoMove] at hD;cases hC;cases hD;exact v_NoMark_NoMove
  ·rw[m_NoMark] at hC;rw[m_NoMark] at hD;cases hC;cases hD;exact v_NoMark_NoMark
  ·rw[m_NoMark] at hC;rw[m_NoDeed] at hD;cases hC;cases hD;exact v_NoMark_NoDeed
  ·rw[m_NoDeed] at hC;rw[m_NoMove] at hD;cases hC;cases hD;exact v_NoDeed_NoMove
  ·rw[m_NoDeed] at hC;rw[m_NoMark] at hD;cases hC;cases hD;exact v_NoDeed_NoMark
  ·rw[m_NoDeed] at hC;rw[m_NoDeed] at hD;cases hC;cases hD;exact v_NoDeed_NoDeed
 ·simp only[List.mem_cons,List.not_mem_nil,or_false] at hc
  rcases hc with rfl | rfl | rfl
  ·rw[m_NoMove] at hC;cases hC
   exact wK X G nk_NoMove ⟨x1_NoMove,x2_NoMove,x3_NoMove,x4_NoMove,x5_NoMove⟩ fv_NoMove fo_NoMove
  ·rw[m_NoMark] at hC;cases hC
   exact wK X G nk_NoMark ⟨x1_NoMark,x2_NoMark,x3_NoMark,x4_NoMark,x5_NoMark⟩ fv_NoMark fo_NoMark
  ·rw[m_NoDeed] at hC;cases hC
   exact wK X G nk_NoDeed ⟨x1_NoDeed,x2_NoDeed,x3_NoDeed,x4_NoDeed,x5_NoDeed⟩ fv_NoDeed fo_NoDeed
def spLaw(ts:List (Addr×Addr)):Sp:=fun vs H Q _=>∃(a:Addr) (ns:List Int),vs=[.ref a]∧Rd H a (.lst (ns.map V.int))∧ns.length≤63∧(∀q∈ts,H q.2=some (.tbl #[]))∧∀H',Q (.bl true) H'
theorem Mi{mg:Str->Option Value}{ts:List (Addr×Addr)}{vs:List V}{H:Hp}{Q:VK}{E:XK}(h:spLaw ts vs H Q E):oW mg Do vs H Q E∧∀q∈ts,H q.2=some (.tbl #[]):=by
 obtain⟨a,ns,rfl,rd,hl,ht,q⟩:=h
 obtain⟨d,M',e,ed⟩:=G4 ns (by omega)
 refine⟨⟨⟨[],[]⟩,[],[.scr ns],.cons (.scr (fun z=>by rcases z with z | z<;>cases z) rd) .nil,⟨rfl,List.nodup_nil,fun n a o h=>by simp at h,fun a h=>by cases h⟩,_,e,fun ρ' H' b x j c=>?_⟩,ht⟩
 subst ed
 cases c
 exact q H'
theorem all_mk{P:Program}{w:World}{K:PySem.W.Frag}{mg:Mg}{fa c_ P_:Addr}{CE_NoMove CE_NoMark CE_NoDeed CE0 CC_Keeper CC_Walk:Addr}{tg_MOST_PLACES tg_MOST_STEPS:Tok}(hfa:mg "law"=some (.ref fa)){h:Heap}(X:K.In h)(G:h.Ns mainGlobals mg)(ht_:PySem.W.tabIn K "_law_step"=some (c_,P_))(t0:TD K "is_whole" mH)(t1:TD K "are_weights" iQ)(t2:TD K "are_rows" mD)(t3:TD K "is_place" mF)(t4:TD K "is_lot" qU)(t5:TD K "refuse_no_lot" gA)(t6:TD K "can_be_walked" gq)(t7:TD K "refuse_no_steps" eG)(t8:MethAt K CC_Walk "__len__" "Walk.__len__" cG)(t9:TD K "refuse_no_place" eF)(t10:TD K "lot_at" qW)(t11:TD K "stepped" oE)(t12:MethAt K CC_Walk "__init__" "Walk.__init__" gk)(t13:MethAt K CC_Walk "__eq__" "Walk.__eq__" fK)(t14:MethAt K CC_Walk "after" "Walk.after" gm)(t15:MethAt K CC_Walk "power" "Walk.power" dN)(t16:TD K "refuse_less" iR)(t17:TD K "refuse_no_move" fW)(t18:TD K "moved" uC)(t19:MethAt K CC_Keeper "__init__" "Keeper.__init__" eE)(t20:MethAt K CC_Keeper "__len__" "Keeper.__len__" dj)(t21:MethAt K CC_Keeper "__repr__" "Keeper.__repr__" cU)(t22:MethAt K CC_Keeper "change" "Keeper.change" cQ)(t23:MethAt K CC_Keeper "do" "Keeper.do" du)(t24:MethAt K CC_Keeper "move" "Keeper.move" fG)(t25:MethAt K CC_Keeper "mark" "Keeper.mark" fD)(t26:MethAt K CC_Keeper "back" "Keeper.back" fB)(t27:MethAt K CC_Keeper "undo" "Keeper.undo" fH)(t28:MethAt K CC_Keeper "walk" "Keeper.walk" fJ)(t29:TD K "_law_cell_at" gO)(t30:TD K "_law_next" j8)(t31:TD K "_law_pen_of" iK)(t32:TD K "_law_draw" jZ)(t33:TD K "_law_rows" j9)(t34:TD K "_law_deed" jX)(t35:TD K "_law_due" mC)(t36:TD K "_law_done" jY)(t37:TD K "_law_stands" iM)(t38:TD K "_law_flags" dR)(t39:TD K "_law_said" eV)(t40:TD K "_law_step" gY)(t41:TD K "law" vI)(z0:TB K "ArithmeticError")(z1:TB K "LookupError")(z2:TB K "RuntimeError")(z3:TB K "TypeError")(z4:TB K "ValueError")(z5:TB K "all")(z6:TB K "any")(z7:TB K "bool")(z8:TB K "enumerate")(z9:TB K "int")(z10:TB K "isinstance")(z11:TB K "len")(z12:TB K "list")(z13:TB K "max")(z14:TB K "range")(z15:TB K "repr")(z16:TB K "str")(z17:TB K "sum")(z18:TB K "tuple")(z19:TB K "zip")(Z:Cls K mg CE_NoMove CE_NoMark CE_NoDeed CE0 CC_Keeper CC_Walk tg_MOST_PLACES tg_MOST_STEPS) :
  ∃fd:FuncData,(∀(s:Shared) (v:Value),BindsTo s fd ⟨[v],[]⟩ [("_law_script",v)])∧∀base:Heap,K.In base->base.Ns mainGlobals mg->(∀q∈[(c_,P_)],TabD mg base q.1 q.2)->FnOk P w K mg base (bM P w) 16 fa fd ["_law_script"] (spLaw [(c_,P_)]):=by
 obtain⟨f,fd,F,m⟩:=(t41 X G).ex
 have e:=hfa.symm.trans m
 cases e
 refine⟨fd,?_,fun base _ _ TD_=>?_⟩
 ·obtain⟨oc,od,kV,doc,pm,an,cdv,ct,osl,rfl,_⟩:=F.ex
  exact fun s v=>.of_eq rfl
 have yz0:=PySem.W.mg_none_of X G z0
 have yz1:=PySem.W.mg_none_of X G z1
 have yz2:=PySem.W.mg_none_of X G z2
 have yz3:=PySem.W.mg_none_of X G z3
 have yz4:=PySem.W.mg_none_of X G z4
 have yz5:=PySem.W.mg_none_of X G z5
 have yz6:=PySem.W.mg_none_of X G z6
 have yz7:=PySem.W.mg_none_of X G z7
 have yz8:=PySem.W.mg_none_of X G z8
 have yz9:=PySem.W.mg_none_of X G z9
 have yz10:=PySem.W.mg_none_of X G z10
 have yz11:=PySem.W.mg_none_of X G z11
 have yz12:=PySem.W.mg_none_of X G z12
 have yz13:=PySem.W.mg_none_of X G z13
 have yz14:=PySem.W.mg_none_of X G z14
 have yz15:=PySem.W.mg_none_of X G z15
 have yz16:=PySem.W.mg_none_of X G z16
 have yz17:=PySem.W.mg_none_of X G z17
 have yz18:=PySem.W.mg_none_of X G z18
 have yz19:=PySem.W.mg_none_of X G z19
 have D0:DefD P w K mg base _ _ _ nG:=okd (t0 X G) yu ((tK).2 yz7 yz9 yz10)
 have D1:DefD P w K mg base _ _ _ uP:=okd (t1 X G) uI ((m8 nG).2 D0 yz5 yz10 yz11 yz18)
 have D2:DefD P w K mg base _ _ _ Aj:=okd (t2 X G) yr ((tE uP).2 D1 yz5 yz10 yz11 yz18)
 have D3:DefD P w K mg base _ _ _ Ao:=okd (t3 X G) yt ((tH nG).2 D0)
 have D4:DefD P w K mg base _ _ _ Am:=okd (t4 X G) CP ((xG uP).2 D1 Z.m_MOST_PLACES yz6 yz10 yz11 yz18)
 have D5:DefD P w K mg base _ _ _ Ax:=okd (t5 X G) qZ ((jJ Am).2 D4)
 have D6:DefD P w K mg base _ _ _ Ak:=okd (t6 X G) ju ((jH Aj).2 D2 Z.m_MOST_PLACES yz5 yz10 yz11 yz17 yz18)
 have D7:DefD P w K mg base _ _ _ Frs:=okd (t7 X G) oU ((jb nG).2 D0 Z.m_MOST_STEPS)
 have M8:MethD P w K mg base _ "Walk" _ _ _ _ mO:=jo t8 Z.o_Walk.at_ Z.o_Walk.cls tU ((lu).2 Z.o_Walk yz11)
 have D9:DefD P w K mg base _ _ _ tY:=okd (t9 X G) oR ((iZ Ao mO).2 D3 M8 yz11)
 have D10:DefD P w K mg base _ _ _ Av:=okd (t10 X G) CT ((xH).2 yz14 yz18)
 have D11:DefD P w K mg base _ _ _ Ay:=okd (t11 X G) Ab ((vh).2 yz11 yz14 yz17 yz18 yz19)
 have M12:MethD P w K mg base _ "Walk" _ _ _ _ Fin:=jo t12 Z.o_Walk.at_ Z.o_Walk.cls qY ((jG Ak).2 D6 Z.o_Walk yz17)
 have W_Walk:ClsD P w K mg base _ "Walk" nF:=MN M12 (fun _ _ _ _ _ _ us hl=>match us,hl with | [_,_],_=>rfl) (fun C hC=>by
  have q:=hC.symm.trans Z.o_Walk.at_
  cases q
  exact Z.k_Walk) KQ
 have M13:MethD P w K mg base _ "Walk" _ _ _ _ vN:=jo t13 Z.o_Walk.at_ Z.o_Walk.cls uH ((m7).2 Z.o_Walk.at_ Z.o_Walk Z.q_Walk yz10)
 have M14:MethD P w K mg base _ "Walk" _ _ _ _ Ai:=jo t14 Z.o_Walk.at_ Z.o_Walk.cls nj ((jr Ax Frs Ay).2 D5 D7 D11 Z.o_Walk yz11 yz14)
 have M15:MethD P w K mg base _ "Walk" _ _ _ _ uQ:=jo t15 Z.o_Walk.at_ Z.o_Walk.cls nq ((oh Av Ai).2 D10 M14 Z.o_Walk yz11 yz14 yz18)
 have D16:DefD P w K mg base _ _ _ vW:=okd (t16 X G) uJ ((m9 nG).2 D0)
 have D17:DefD P w K mg base _ _ _ vX:=okd (t17 X G) jc ((fV tY vW).2 D9 D16) (fun _ _ _ _ _ _ us hl=>match us,hl with | [_,_,_,_,_],_=>rfl)
 have D18:DefD P w K mg base _ _ _ vU:=okd (t18 X G) xQ ((pK nF).2 W_Walk Z.t Z.o_Walk yz12 yz18) (fun _ _ _ _ _ _ us hl=>match us,hl with | [_,_,_,_,_],_=>rfl)
 have M19:MethD P w K mg base _ "Keeper" _ _ _ _ Fv:=jo t19 Z.o_Keeper.at_ Z.o_Keeper.cls oF ((dZ uQ).2 M15 Z.o_Walk.at_ Z.o_Keeper Z.q_Walk yz10)
 have W_Keeper:ClsD P w K mg base _ "Keeper" Ah:=MK M19 (fun _ _ _ _ _ _ us hl=>match us,hl with | [_,_],_=>rfl) (fun C hC=>by
  have q:=hC.symm.trans Z.o_Keeper.at_
  cases q
  exact Z.k_Keeper)
 have M20:MethD P w K mg base _ "Keeper" _ _ _ _ kj:=jo t20 Z.o_Keeper.at_ Z.o_Keeper.cls pU ((fU mO).2 M8 Z.o_Keeper yz11)
 have M21:MethD P w K mg base _ "Keeper" _ _ _ _ rG:=jo t21 Z.o_Keeper.at_ Z.o_Keeper.cls oG ((d8 mO).2 M8 Z.o_Keeper yz11)
 have M22:MethD P w K mg base _ "Keeper" _ _ _ _ vP:=jo t22 Z.o_Keeper.at_ Z.o_Keeper.cls qX ((gj uQ).2 M15 Z.o_Keeper)
 have M23:MethD P w K mg base _ "Keeper" _ _ _ _ rF:=jo t23 Z.o_Keeper.at_ Z.o_Keeper.cls xO ((jR vP).2 M22 Z.o_Keeper)
 have M24:MethD P w K mg base _ "Keeper" _ _ _ _ vQ:=jo t24 Z.o_Keeper.at_ Z.o_Keeper.cls uF ((fj vX vU rF).2 D17 D18 M23 Z.o_Keeper)
 have M25:MethD P w K mg base _ "Keeper" _ _ _ _ Aq:=jo t25 Z.o_Keeper.at_ Z.o_Keeper.cls uE ((iG rF).2 M23 Z.o_Keeper)
 have M26:MethD P w K mg base _ "Keeper" _ _ _ _ vO:=jo t26 Z.o_Keeper.at_ Z.o_Keeper.cls uD ((eZ rF).2 M23 Z.t Z.o_Keeper yz11)
 have M27:MethD P w K mg base _ "Keeper" _ _ _ _ vR:=jo t27 Z.o_Keeper.at_ Z.o_Keeper.cls lE ((fu vP).2 M22 Z.t Z.o_Keeper yz11)
 have M28:MethD P w K mg base _ "Keeper" _ _ _ _ Ar:=jo t28 Z.o_Keeper.at_ Z.o_Keeper.cls uG ((iH).2 Z.o_Keeper)
 have D29:DefD P w K mg base _ _ _ vK:=okd (t29 X G) tV ((lz).2 yz11)
 have D30:DefD P w K mg base _ _ _ Aw:=okd (t30 X G) oK ((qi).2 )
 have D31:DefD P w K mg base _ _ _ vV:=okd (t31 X G) lF ((iI).2 yz9 yz13)
 have D32:DefD P w K mg base _ _ _ vM:=okd (t32 X G) oJ ((jU Aw).2 D30)
 have D33:DefD P w K mg base _ _ _ vY:=okd (t33 X G) oM ((jV vM).2 D32 yz9 yz11 yz12 yz14 yz18)
 have D34:DefD P w K mg base _ _ _ yw:=okd (t34 X G) oH ((jT vM).2 D32 yz8 yz9 yz11 yz13)
 have D35:DefD P w K mg base _ _ _ Al:=okd (t35 X G) qj ((my).2 yz11 yz12 yz18)
 have D36:DefD P w K mg base _ _ _ vL:=okd (t36 X G) xP ((gR vQ Aq vO vR).2 M24 M25 M26 M27)
 have D37:DefD P w K mg base _ _ _ tZ:=okd (t37 X G) lG ((iJ nF Ar vN rG kj).2 W_Walk M28 M13 M21 M20 Z.o_Walk.at_ Z.o_Keeper Z.o_Walk Z.q_Walk yz7 yz10 yz11 yz15 yz16 yz17)
 have FG:FlgD P w K mg base 0 _ jM wJ:=Oe (t38 X G) nu Z.fk K7 fun hr FK ho h0 hn hf=>(dJ).2 Z.mL yz0 yz1 yz2 yz3 yz4 yz10 hr FK ho h0 hn hf
 have H39:HrdD P w K mg base _ _ vZ:=Og (k:=13) (t39 X G) oN fun hr ht=>(gU wJ).2 Z.t Z.m_FadeError FG (by decide) ht hr
 have T40:DefT P w K mg base _ _ _ P_ yx:=Oh (t40 X G) oO X G ht_ fun hP hc hr=>(jW Al vL vZ).2 D35 D36 yz10 yz18 H39 (TD_ _ (.head _)) hc hP hr
 exact ((Nb (P:=P) (w:=w) (base:=base) (ts:=[(c_,P_)]) F CQ fun cdv A outer s H E ht hr=>(zV vK vV vY tZ yw nF Ah yx).2 D29 D31 D33 D37 D34 W_Walk W_Keeper Z.o_Walk yz11 yz14 T40 ⟨_,ht _ (.head _)⟩ hr).imp fun vs H Q E h=>Mi h).mono (by decide)
theorem walk {l:PySem.W.OpenLaw}{q:Program}{loose:List Str}{XP:(Str->Option Value)->Heap->Prop}{YP:World->Heap->Prop}{d:DefRec}{K:Params->PySem.W.Frag}{c_ P_:Addr} (hn:l.most=some 63) (hdf:d.params.defaults=[])
  (hY:∀(w:World) (h:Heap),YP w h->(K w.params).In h) (hnl:∀w:World,FW (K w.params)=true) (h1:((PyProof.Rows.recsOf q).find? (fun e=>e.name==("_law_step":Str))).isSome=true) (h2:∀w:World,PySem.W.tabIn (K w.params) "_law_step"=some (c_,P_)) (h3:∀w:World,(K w.params).lookup P_=none)
  (F:∀(w:World) (mg:Str->Option Value) (fa:Addr) (h:Heap),(K w.params).In h->h.Ns mainGlobals mg->mg d.name=some (.ref fa)->
    ∃fd:FuncData,(∀(s:Shared) (u:Value),BindsTo s fd ⟨[u],[]⟩ [("_law_script",u)])∧∀base:Heap,(K w.params).In base->base.Ns mainGlobals mg->(∀q∈[(c_,P_)],TabD mg base q.1 q.2)->FnOk l.prog w (K w.params) mg base (bM l.prog w) 16 fa fd ["_law_script"] (spLaw [(c_,P_)])) :
  PySem.W.WalkO q loose XP YP l.row.toRowW d [] (fun f vs=>PySem.call f vs):=
 L2.Fq (n:=63) (k:=16) (x := "_law_script") (CX:=fun w=>bM l.prog w) (sp:=spLaw) (tn:=[("_law_step",c_,P_)]) hn (by decide) hdf ⟨rfl,by decide,by decide,rfl⟩ hY (fun w a o e=>JS (hnl w) e) (fun t ht=>by rw[List.mem_singleton.mp ht];exact h1) (fun w t ht=>by rw[List.mem_singleton.mp ht];exact h2 w) (fun w t ht=>by rw[List.mem_singleton.mp ht];exact h3 w) F (fun _ a ns hl hS hH=>⟨a,ns,rfl,hS,hl,hH,fun _=>rfl⟩) fun _ _ _ _ _ z=>by
  obtain⟨_,_,_,_,_,_,_,_,_,_,_,_,_,q⟩:=z
  exact q.elim
end K
open PySem PySem.W PyProof.Rows
set_option maxRecDepth 100000 in
set_option maxHeartbeats 0 in
theorem PySem.Challenge.cw_fadewalk_k86_a_keeper_deed_by_deed_holds : PySem.Challenge.rw_fadewalk_k86_a_keeper_deed_by_deed.Holds := by
 w_on;refine T.cut ?_
 k_fill
 refine' K.walk (l:=PySem.Challenge.rw_fadewalk_k86_a_keeper_deed_by_deed) rfl rfl (fun w h Y=>PySem.W.km_in_of Y) ?nl9 ?h1 ?h2 ?h3 ?F
 case h2=>
  intro w
  refine' L2.Df ?qa ?ql ?qc ?qd ?qe
  case qa=>k_is
  case ql=>k_is
  case qc=>exact rfl
  case qd=>k_is
  case qe=>exact rfl
 case nl9=>intro w;first | k_is | kernel_rfl
 case h1=>decide +kernel
 case h3=>intro w;first | k_is | kernel_rfl
 case F=>
  intro w mg fa h KX G hmg
  refine' K.all_mk hmg KX G ?ht ?t0 ?t1 ?t2 ?t3 ?t4 ?t5 ?t6 ?t7 ?t8 ?t9 ?t10 ?t11 ?t12 ?t13 ?t14 ?t15 ?t16 ?t17 ?t18 ?t19 ?t20 ?t21 ?t22 ?t23 ?t24 ?t25 ?t26 ?t27 ?t28 ?t29 ?t30 ?t31 ?t32 ?t33 ?t34 ?t35 ?t36 ?t37 ?t38 ?t39 ?t40 ?t41 ?z0 ?z1 ?z2 ?z3 ?z4 ?z5 ?z6 ?z7 ?z8 ?z9 ?z10 ?z11 ?z12 ?z13 ?z14 ?z15 ?z16 ?z17 ?z18 ?z19 (K.Im KX G ?cE0 ?c_NoMove ?c_NoMark ?c_NoDeed ?eE0 ?e_NoMove ?s_NoMove ?x1_NoMove ?x2_NoMove ?x3_NoMove ?x4_NoMove ?x5_NoMove ?e_NoMark ?s_NoMark ?x1_NoMark ?x2_NoMark ?x3_NoMark ?x4_NoMark ?x5_NoMark ?e_NoDeed ?s_NoDeed ?x1_NoDeed ?x2_NoDeed ?x3_NoDeed ?x4_NoDeed ?x5_NoDeed ?v_NoMove_NoMove ?v_NoMove_NoMark ?v_NoMove_NoDeed ?v_NoMark_NoMove ?v_NoMark_NoMark ?v_NoMark_NoDeed ?v_NoDeed_NoMove ?v_NoDeed_NoMark ?v_NoDeed_NoDeed ?fv_NoMove ?fo_NoMove ?nk_NoMove ?fv_NoMark ?fo_NoMark ?nk_NoMark ?fv_NoDeed ?fo_NoDeed ?nk_NoDeed ?g_MOST_PLACES ?g_MOST_STEPS ?cm_Keeper ?pg_Keeper ?hd_Keeper ?po_Keeper ?sa_Keeper ?mk_Keeper ?kc_Keeper ?nf_Keeper_kept ?nf_Keeper_marks ?nf_Keeper_deeds ?nf_Keeper_powers ?nf_Keeper_made ?nf_Keeper___bool__ ?cm_Walk ?pg_Walk ?hd_Walk ?po_Walk ?sa_Walk ?mk_Walk ?kc_Walk ?qn_Walk ?qm_Walk ?qc_Walk ?qg_Walk ?qt_Walk ?qi_Walk ?nf_Walk_rows ?nf_Walk_whole ?nl)
  case ht=>
   refine' L2.Df ?qa ?ql ?qc ?qd ?qe
   case qa=>k_is
   case ql=>k_is
   case qc=>exact rfl
   case qd=>k_is
   case qe=>exact rfl
  case cm_Keeper | cm_Walk=>k_is
  case cE0 | c_NoMove | c_NoMark | c_NoDeed | eE0 | e_NoMove | s_NoMove | x1_NoMove | x2_NoMove | x3_NoMove | x4_NoMove | x5_NoMove | e_NoMark | s_NoMark | x1_NoMark | x2_NoMark | x3_NoMark | x4_NoMark | x5_NoMark | e_NoDeed | s_NoDeed | x1_NoDeed | x2_NoDeed | x3_NoDeed | x4_NoDeed | x5_NoDeed | v_NoMove_NoMove | v_NoMove_NoMark | v_NoMove_NoDeed | v_NoMark_NoMove | v_NoMark_NoMark | v_NoMark_NoDeed | v_NoDeed_NoMove | v_NoDeed_NoMark | v_NoDeed_NoDeed | fv_NoMove | fo_NoMove | fv_NoMark | fo_NoMark | fv_NoDeed | fo_NoDeed | g_MOST_PLACES | g_MOST_STEPS | pg_Keeper | hd_Keeper | po_Keeper | sa_Keeper | mk_Keeper | kc_Keeper | nf_Keeper_kept | nf_Keeper_marks | nf_Keeper_deeds | nf_Keeper_powers | nf_Keeper_made | nf_Keeper___bool__ | pg_Walk | hd_Walk | po_Walk | sa_Walk | mk_Walk | kc_Walk | qn_Walk | qm_Walk | qc_Walk | qg_Walk | qt_Walk | qi_Walk | nf_Walk_rows | nf_Walk_whole | nl=>first | k_is | k_exc | kernel_rfl
  case nk_NoMove=>
   refine' (L3.aH false ?_ ?_ rfl (L3.aH false ?_ ?_ rfl (L3.aH false ?_ ?_ rfl (L3.aH false ?_ ?_ rfl (L3.aH false ?_ ?_ rfl (L3.aH false ?_ ?_ rfl (L3.aH false ?_ ?_ rfl (L3.aH true ?_ ?_ rfl (L3.aH false ?_ ?_ rfl (L3.aH false ?_ ?_ rfl (L3.aH false ?_ ?_ rfl (L3.aH false ?_ ?_ rfl (L3.aH false ?_ ?_ rfl (L3.aH false ?_ ?_ rfl (L3.aH false ?_ ?_ rfl (L3.aH false ?_ ?_ rfl (L3.aH false ?_ ?_ rfl (L3.aH false ?_ ?_ rfl (L3.aH false ?_ ?_ rfl (L3.aH false ?_ ?_ rfl True.intro))))))))))))))))))))
   all_goals try (first | k_is | k_exc | kernel_rfl)
  case nk_NoMark=>
   refine' (L3.aH false ?_ ?_ rfl (L3.aH false ?_ ?_ rfl (L3.aH false ?_ ?_ rfl (L3.aH false ?_ ?_ rfl (L3.aH false ?_ ?_ rfl (L3.aH false ?_ ?_ rfl (L3.aH true ?_ ?_ rfl (L3.aH false ?_ ?_ rfl (L3.aH false ?_ ?_ rfl (L3.aH false ?_ ?_ rfl (L3.aH false ?_ ?_ rfl (L3.aH false ?_ ?_ rfl (L3.aH false ?_ ?_ rfl (L3.aH false ?_ ?_ rfl (L3.aH false ?_ ?_ rfl (L3.aH false ?_ ?_ rfl (L3.aH false ?_ ?_ rfl (L3.aH false ?_ ?_ rfl (L3.aH false ?_ ?_ rfl (L3.aH false ?_ ?_ rfl True.intro))))))))))))))))))))
   all_goals try (first | k_is | k_exc | kernel_rfl)
  case nk_NoDeed=>
   refine' (L3.aH false ?_ ?_ rfl (L3.aH false ?_ ?_ rfl (L3.aH true ?_ ?_ rfl (L3.aH false ?_ ?_ rfl (L3.aH false ?_ ?_ rfl (L3.aH false ?_ ?_ rfl (L3.aH false ?_ ?_ rfl (L3.aH false ?_ ?_ rfl (L3.aH false ?_ ?_ rfl (L3.aH false ?_ ?_ rfl (L3.aH false ?_ ?_ rfl (L3.aH false ?_ ?_ rfl (L3.aH false ?_ ?_ rfl (L3.aH false ?_ ?_ rfl (L3.aH false ?_ ?_ rfl (L3.aH false ?_ ?_ rfl (L3.aH false ?_ ?_ rfl (L3.aH false ?_ ?_ rfl (L3.aH false ?_ ?_ rfl (L3.aH false ?_ ?_ rfl True.intro))))))))))))))))))))
   all_goals try (first | k_is | k_exc | kernel_rfl)
  case t8 | t12 | t13 | t14 | t15 | t19 | t20 | t21 | t22 | t23 | t24 | t25 | t26 | t27 | t28=>apply L2.Cd<;>k_is
  case t0 | t1 | t2 | t3 | t4 | t5 | t6 | t7 | t9 | t10 | t11 | t16 | t17 | t18 | t29 | t30 | t31 | t32 | t33 | t34 | t35 | t36 | t37 | t38 | t39 | t40 | t41=>apply L3.Mm<;>k_is
  case z0 | z1 | z2 | z3 | z4 | z5 | z6 | z7 | z8 | z9 | z10 | z11 | z12 | z13 | z14 | z15 | z16 | z17 | z18 | z19=>delta L3.TB;k_is
